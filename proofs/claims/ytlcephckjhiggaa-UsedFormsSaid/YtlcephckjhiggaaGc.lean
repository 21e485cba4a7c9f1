/-
  WALKS of stage 7: the map.
-/
import Derived.Test.YtlcephckjhiggaaRows
import Derived.Test.YtlcephckjhiggaaAbt
import Derived.Test.YtlcephckjhiggaaBb
import Derived.Test.YtlcephckjhiggaaGa
import Derived.Test.YtlcephckjhiggaaGb
namespace Go.Proofs.Ytlcephckjhiggaa
open Go.RowKit
namespace Gc
open Ab Bm Bt Bb Ga Gb
theorem ag25 (w : World) : (isAgg 25).run Try.prog w = .ok true w := by kernel_rfl
theorem ag4 (w : World) : (isAgg 4).run Try.prog w = .ok false w := by kernel_rfl
theorem ag47 (w : World) : (isAgg 47).run Try.prog w = .ok false w := by kernel_rfl
theorem ag50 (w : World) : (isAgg 50).run Try.prog w = .ok true w := by kernel_rfl
theorem sz25 (w : World) : (sizeOf 25).run Try.prog w = .ok 2 w := by kernel_rfl
theorem sz4 (w : World) : (sizeOf 4).run Try.prog w = .ok 1 w := by kernel_rfl
theorem sz44 (w : World) : (sizeOf 44).run Try.prog w = .ok 256 w := by kernel_rfl
theorem sz47 (w : World) : (sizeOf 47).run Try.prog w = .ok 1 w := by kernel_rfl
theorem sz50 (w : World) : (sizeOf 50).run Try.prog w = .ok 16 w := by kernel_rfl
theorem zv25 (w : World) : (zeroValue 25).run Try.prog w = .ok (.agg #[(Value.string ⟨#[]⟩), (Value.int .i64 0)]) w := by kernel_rfl
theorem zv44 (w : World) : (zeroValue 44).run Try.prog w = .ok (.agg #[(Value.bool false), (Value.bool false), (Value.bool false), (Value.bool false), (Value.bool false), (Value.bool false), (Value.bool false), (Value.bool false), (Value.bool false), (Value.bool false), (Value.bool false), (Value.bool false), (Value.bool false), (Value.bool false), (Value.bool false), (Value.bool false), (Value.bool false), (Value.bool false), (Value.bool false), (Value.bool false), (Value.bool false), (Value.bool false), (Value.bool false), (Value.bool false), (Value.bool false), (Value.bool false), (Value.bool false), (Value.bool false), (Value.bool false), (Value.bool false), (Value.bool false), (Value.bool false), (Value.bool false), (Value.bool false), (Value.bool false), (Value.bool false), (Value.bool false), (Value.bool false), (Value.bool false), (Value.bool false), (Value.bool false), (Value.bool false), (Value.bool false), (Value.bool false), (Value.bool false), (Value.bool false), (Value.bool false), (Value.bool false), (Value.bool false), (Value.bool false), (Value.bool false), (Value.bool false), (Value.bool false), (Value.bool false), (Value.bool false), (Value.bool false), (Value.bool false), (Value.bool false), (Value.bool false), (Value.bool false), (Value.bool false), (Value.bool false), (Value.bool false), (Value.bool false), (Value.bool false), (Value.bool false), (Value.bool false), (Value.bool false), (Value.bool false), (Value.bool false), (Value.bool false), (Value.bool false), (Value.bool false), (Value.bool false), (Value.bool false), (Value.bool false), (Value.bool false), (Value.bool false), (Value.bool false), (Value.bool false), (Value.bool false), (Value.bool false), (Value.bool false), (Value.bool false), (Value.bool false), (Value.bool false), (Value.bool false), (Value.bool false), (Value.bool false), (Value.bool false), (Value.bool false), (Value.bool false), (Value.bool false), (Value.bool false), (Value.bool false), (Value.bool false), (Value.bool false), (Value.bool false), (Value.bool false), (Value.bool false), (Value.bool false), (Value.bool false), (Value.bool false), (Value.bool false), (Value.bool false), (Value.bool false), (Value.bool false), (Value.bool false), (Value.bool false), (Value.bool false), (Value.bool false), (Value.bool false), (Value.bool false), (Value.bool false), (Value.bool false), (Value.bool false), (Value.bool false), (Value.bool false), (Value.bool false), (Value.bool false), (Value.bool false), (Value.bool false), (Value.bool false), (Value.bool false), (Value.bool false), (Value.bool false), (Value.bool false), (Value.bool false), (Value.bool false), (Value.bool false), (Value.bool false), (Value.bool false), (Value.bool false), (Value.bool false), (Value.bool false), (Value.bool false), (Value.bool false), (Value.bool false), (Value.bool false), (Value.bool false), (Value.bool false), (Value.bool false), (Value.bool false), (Value.bool false), (Value.bool false), (Value.bool false), (Value.bool false), (Value.bool false), (Value.bool false), (Value.bool false), (Value.bool false), (Value.bool false), (Value.bool false), (Value.bool false), (Value.bool false), (Value.bool false), (Value.bool false), (Value.bool false), (Value.bool false), (Value.bool false), (Value.bool false), (Value.bool false), (Value.bool false), (Value.bool false), (Value.bool false), (Value.bool false), (Value.bool false), (Value.bool false), (Value.bool false), (Value.bool false), (Value.bool false), (Value.bool false), (Value.bool false), (Value.bool false), (Value.bool false), (Value.bool false), (Value.bool false), (Value.bool false), (Value.bool false), (Value.bool false), (Value.bool false), (Value.bool false), (Value.bool false), (Value.bool false), (Value.bool false), (Value.bool false), (Value.bool false), (Value.bool false), (Value.bool false), (Value.bool false), (Value.bool false), (Value.bool false), (Value.bool false), (Value.bool false), (Value.bool false), (Value.bool false), (Value.bool false), (Value.bool false), (Value.bool false), (Value.bool false), (Value.bool false), (Value.bool false), (Value.bool false), (Value.bool false), (Value.bool false), (Value.bool false), (Value.bool false), (Value.bool false), (Value.bool false), (Value.bool false), (Value.bool false), (Value.bool false), (Value.bool false), (Value.bool false), (Value.bool false), (Value.bool false), (Value.bool false), (Value.bool false), (Value.bool false), (Value.bool false), (Value.bool false), (Value.bool false), (Value.bool false), (Value.bool false), (Value.bool false), (Value.bool false), (Value.bool false), (Value.bool false), (Value.bool false), (Value.bool false), (Value.bool false), (Value.bool false), (Value.bool false), (Value.bool false), (Value.bool false), (Value.bool false), (Value.bool false), (Value.bool false), (Value.bool false), (Value.bool false), (Value.bool false), (Value.bool false), (Value.bool false), (Value.bool false), (Value.bool false), (Value.bool false), (Value.bool false), (Value.bool false), (Value.bool false), (Value.bool false), (Value.bool false), (Value.bool false), (Value.bool false), (Value.bool false), (Value.bool false), (Value.bool false)]) w := by kernel_rfl
theorem zv50 (w : World) : (zeroValue 50).run Try.prog w = .ok (.agg #[(Value.int .u64 0), (Value.int .u64 0), (Value.int .u64 0), (Value.int .u64 0), (Value.int .u64 0), (Value.int .u64 0), (Value.int .u64 0), (Value.int .u64 0), (Value.int .u64 0), (Value.int .u64 0), (Value.int .u64 0), (Value.int .u64 0), (Value.int .u64 0), (Value.int .u64 0), (Value.int .u64 0), (Value.int .u64 0)]) w := by kernel_rfl
theorem or_i {P : Program} {t : TypeId} (x y : Int) (hx : 0 ≤ x ∧ x < 18446744073709551616) (hy : 0 ≤ y ∧ y < 18446744073709551616) (w : World) : (binOp .or t (.int .u64 x) (.int .u64 y)).run P w = .ok (.int .u64 ((x.toNat ||| y.toNat : Nat) : Int)) w := by
  show (Op.intBits .or .u64 x y).run P w = _
  have h1 : ∀ z : Int, 0 ≤ z → z < 18446744073709551616 → (BitVec.ofInt 64 z) = BitVec.ofNat 64 z.toNat := fun z h0 h1 => by
    rw [show z = ((z.toNat : Nat) : Int) by omega, BitVec.ofInt_natCast, Int.toNat_natCast]
  have hlt : x.toNat ||| y.toNat < 2 ^ 64 := Nat.or_lt_two_pow (by omega) (by omega)
  have h2 : (BitVec.ofNat 64 x.toNat ||| BitVec.ofNat 64 y.toNat).toNat = x.toNat ||| y.toNat := by
    rw [BitVec.toNat_or, BitVec.toNat_ofNat, BitVec.toNat_ofNat, Nat.mod_eq_of_lt (by omega), Nat.mod_eq_of_lt (by omega)]
  show (pure (Value.int .u64 (IntKind.u64.wrap (((BitVec.ofInt 64 x ||| BitVec.ofInt 64 y).toNat : Nat) : Int))) : Sem Value).run P w = _
  rw [h1 x hx.1 hx.2, h1 y hy.1 hy.2, h2, IntKind.wrap_u64]
  show Result.ok (Value.int .u64 (((x.toNat ||| y.toNat : Nat) : Int) % 18446744073709551616)) w = _
  rw [show (((x.toNat ||| y.toNat : Nat) : Int) % 18446744073709551616) = ((x.toNat ||| y.toNat : Nat) : Int) by omega]
/-- a row's bits, as far as m -/
def rowB (h : List Bool) (k m : Nat) : List Bool := (List.range m).map fun i => h.getD (16 * k + i) false
theorem rowB_len (h : List Bool) (k m : Nat) : (rowB h k m).length = m := by simp [rowB]
theorem rowB_s (h : List Bool) (k m : Nat) : rowB h k (m + 1) = rowB h k m ++ [h.getD (16 * k + m) false] := by
  unfold rowB; rw [List.range_succ, List.map_append]; rfl
def inR (b k : Nat) : Nat := min 16 (b - 16 * k)
def partsF (h : List Bool) (b : Nat) : List Int := (List.range 16).map fun k => ((val (rowB h k (inR b k)) : Nat) : Int)
def anyR (h : List Bool) (k m : Nat) : Bool := (rowB h k m).any id
def frB (h : List Bool) (b : Nat) : List Bool := (List.range 16).map fun k => anyR h k (inR b k)
theorem partF_len (h : List Bool) (b : Nat) : (partsF h b).length = 16 := by simp [partsF]
theorem partF_at (h : List Bool) (b k : Nat) (hk : k < 16) : (partsF h b).getD k 0 = ((val (rowB h k (inR b k)) : Nat) : Int) := by
  rw [getD_lt _ k 0 (by rw [partF_len]; exact hk)]; simp [partsF]
theorem row_lt (h : List Bool) (k m : Nat) (hm : m ≤ 16) : val (rowB h k m) < 65536 := by
  have := val_lt (rowB h k m)
  rw [rowB_len] at this
  exact Nat.lt_of_lt_of_le this (Nat.pow_le_pow_right (n := 2) (by omega) hm)
theorem val_snoc (l : List Bool) (x : Bool) : val (l ++ [x]) = 2 * val l + x.toNat := by
  rw [val_append]; simp [val]; omega
theorem inR_in {b : Nat} (_h : b < 256) : inR b (b / 16) = b % 16 ∧ inR (b + 1) (b / 16) = b % 16 + 1 ∧ 16 * (b / 16) + b % 16 = b := by unfold inR; omega
theorem inR_out {b k : Nat} (_h : b < 256) (hk : k ≠ b / 16) : inR (b + 1) k = inR b k := by unfold inR; omega
theorem partF_1 (h : List Bool) (b : Nat) (hb : b < 256) (x : Int) (hx : x = 2 * (partsF h b).getD (b / 16) 0 + ((h.getD b false).toNat : Int)) : (partsF h b).set (b / 16) x = partsF h (b + 1) := by
  obtain ⟨h1, h2, h3⟩ := inR_in hb
  apply List.ext_getElem?
  intro k
  by_cases hk : k < 16
  · rw [List.getElem?_set]
    by_cases e : b / 16 = k
    · subst e
      rw [if_pos rfl, if_pos (by rw [partF_len]; exact hk), hx, partF_at _ _ _ hk, h1]
      simp only [partsF, List.getElem?_map, List.getElem?_range hk, Option.map_some]
      rw [h2, rowB_s, val_snoc, h3]
      congr 1
    · rw [if_neg e]
      simp only [partsF, List.getElem?_map, List.getElem?_range hk, Option.map_some]
      rw [inR_out hb (fun h => e h.symm)]
  · rw [List.getElem?_eq_none (by rw [List.length_set, partF_len]; omega), List.getElem?_eq_none (by rw [partF_len]; omega)]
theorem partF_0 (h : List Bool) : List.replicate 16 0 = partsF h 0 := by
  unfold partsF
  have : ∀ k, inR 0 k = 0 := fun k => by unfold inR; omega
  simp only [this]; rfl
def partsN (h : List Bool) : Nat → List Int
  | 0 => List.replicate 16 0
  | b + 1 => (partsN h b).set (b / 16) (2 * (partsN h b).getD (b / 16) 0 + ((h.getD b false).toNat : Int))
  termination_by b => b
theorem parts_eq (h : List Bool) : ∀ b, b ≤ 256 → partsN h b = partsF h b
  | 0, _ => by rw [partsN, partF_0]
  | b + 1, hb => by
    rw [partsN, parts_eq h b (by omega)]
    exact partF_1 h b (by omega) _ rfl
theorem parts_0 (h : List Bool) : List.replicate 16 0 = partsN h 0 := by rw [partsN]
theorem parts_len (h : List Bool) : ∀ b, (partsN h b).length = 16
  | 0 => by rw [partsN, List.length_replicate]
  | b + 1 => by rw [partsN, List.length_set, parts_len h b]
theorem parts_at (h : List Bool) (b k : Nat) (hb : b ≤ 256) (hk : k < 16) : (partsN h b).getD k 0 = ((val (rowB h k (inR b k)) : Nat) : Int) := by
  rw [parts_eq h b hb, partF_at h b k hk]
/-- a bit more of a number of bits -/
theorem val_set : ∀ (l : List Bool) (k : Nat), k < l.length → val l ||| 2 ^ (l.length - 1 - k) = val (l.set k true) := by
  intro l k hk
  have hb : ∀ (m : List Bool) (j : Nat), (val m).testBit j = (decide (j < m.length) && m.getD (m.length - 1 - j) false) := fun m j => by
    by_cases hj : j < m.length
    · have h1 : (num (val m) m.length)[m.length - 1 - j]? = m[m.length - 1 - j]? := by rw [num_val]
      rw [num_get _ _ _ (by omega), show m.length - 1 - (m.length - 1 - j) = j by omega, List.getElem?_eq_getElem (by omega)] at h1
      rw [decide_eq_true hj, getD_lt _ _ _ (by omega)]
      simpa using h1
    · rw [decide_eq_false hj, Nat.testBit_lt_two_pow (Nat.lt_of_lt_of_le (val_lt m) (Nat.pow_le_pow_right (by omega) (by omega)))]; rfl
  apply Nat.eq_of_testBit_eq
  intro j
  rw [Nat.testBit_or, hb, hb, List.length_set, Nat.testBit_two_pow]
  by_cases hj : j < l.length
  · by_cases e : l.length - 1 - k = j
    · have e2 : l.length - 1 - j = k := by omega
      have hx : (l.set k true).getD k false = true := by
        rw [getD_lt _ _ _ (by rw [List.length_set]; exact hk), List.getElem_set_self]
      rw [e2, hx, decide_eq_true hj, decide_eq_true e]; simp
    · have e2 : ¬ k = l.length - 1 - j := by omega
      have hx : (l.set k true).getD (l.length - 1 - j) false = l.getD (l.length - 1 - j) false := by
        rw [List.getD_eq_getElem?_getD, List.getElem?_set, if_neg e2, ← List.getD_eq_getElem?_getD]
      rw [hx, decide_eq_false e, Bool.or_false]
  · rw [decide_eq_false hj, decide_eq_false (by omega)]; rfl
def frN (h : List Bool) : Nat → Nat
  | 0 => 0
  | b + 1 => if h.getD b false = true then frN h b ||| 2 ^ (15 - b / 16) else frN h b
  termination_by b => b
theorem frB_len (h : List Bool) (b : Nat) : (frB h b).length = 16 := by simp [frB]
theorem anyR_s (h : List Bool) (k m : Nat) : anyR h k (m + 1) = (anyR h k m || h.getD (16 * k + m) false) := by
  unfold anyR
  rw [rowB_s, List.any_append]; simp
theorem frB_1 (h : List Bool) (b : Nat) (hb : b < 256) : frB h (b + 1) = if h.getD b false = true then (frB h b).set (b / 16) true else frB h b := by
  obtain ⟨h1, h2, h3⟩ := inR_in hb
  apply List.ext_getElem?
  intro k
  by_cases hk : k < 16
  · by_cases e : b / 16 = k
    · subst e
      have : (frB h (b + 1))[b / 16]? = some (anyR h (b / 16) (b % 16) || h.getD b false) := by
        simp only [frB, List.getElem?_map, List.getElem?_range hk, Option.map_some]
        rw [h2, anyR_s, h3]
      rw [this]
      split
      · rename_i hv
        rw [hv, Bool.or_true, List.getElem?_set, if_pos rfl, if_pos (by rw [frB_len]; exact hk)]
      · rename_i hv
        have hv : h.getD b false = false := by simpa using hv
        rw [hv, Bool.or_false]
        simp only [frB, List.getElem?_map, List.getElem?_range hk, Option.map_some]
        rw [h1]
    · have : (frB h (b + 1))[k]? = (frB h b)[k]? := by
        simp only [frB, List.getElem?_map, List.getElem?_range hk, Option.map_some]
        rw [inR_out hb (fun h => e h.symm)]
      rw [this]
      split
      · rw [List.getElem?_set, if_neg e]
      · rfl
  · rw [List.getElem?_eq_none (by rw [frB_len]; omega)]
    split
    · rw [List.getElem?_eq_none (by rw [List.length_set, frB_len]; omega)]
    · rw [List.getElem?_eq_none (by rw [frB_len]; omega)]
theorem fr_eq (h : List Bool) : ∀ b, b ≤ 256 → frN h b = val (frB h b)
  | 0, _ => by
    rw [frN]
    unfold frB
    have : ∀ k, inR 0 k = 0 := fun k => by unfold inR; omega
    simp only [this]; rfl
  | b + 1, hb => by
    rw [frN, fr_eq h b (by omega), frB_1 h b (by omega)]
    split
    · rw [← val_set _ _ (by rw [frB_len]; omega), frB_len]
    · rfl
theorem fr_lt (h : List Bool) (b : Nat) (hb : b ≤ 256) : frN h b < 65536 := by
  rw [fr_eq h b hb]
  have := val_lt (frB h b)
  rw [frB_len] at this
  exact this

/-- what is laid: which rows there are, and each of them -/
def layB (h : List Bool) : Nat → List Bool
  | 0 => num (frN h 256) 16
  | k + 1 => if (partsN h 256).getD k 0 = 0 then layB h k else layB h k ++ num ((partsN h 256).getD k 0).toNat 16
  termination_by k => k
theorem layB_0 (h : List Bool) : [] ++ num ((frN h 256 : Nat) : Int).toNat 16 = layB h 0 := by rw [layB, List.nil_append]; rfl
theorem layB_n {h : List Bool} {k : Nat} (e : (partsN h 256).getD (k : Int).toNat 0 = 0) : layB h k = layB h (k + 1) := by
  have e : (partsN h 256).getD k 0 = 0 := e
  rw [layB, if_pos e]
theorem layB_y {h : List Bool} {k : Nat} (e : ¬ (partsN h 256).getD (k : Int).toNat 0 = 0) : layB h k ++ num ((partsN h 256).getD (k : Int).toNat 0).toNat 16 = layB h (k + 1) := by
  have e1 : ¬ (partsN h 256).getD k 0 = 0 := e
  rw [layB, if_neg e1]; rfl
theorem layB_le (h : List Bool) : ∀ k, (layB h k).length ≤ 16 * k + 16
  | 0 => by rw [layB, num_len]; exact Nat.le_refl _
  | k + 1 => by
    have := layB_le h k
    rw [layB]; split
    · omega
    · rw [List.length_append, num_len]; omega
def mapB (s : ByteArray) : List Bool := layB (hasV s) 16

theorem set_at (l : List Int) (K : Nat) (z : Int) (h : K < l.length) : (l.set K z).getD K 0 = z := by
  rw [getD_lt _ _ _ (by rw [List.length_set]; exact h), List.getElem_set_self]
theorem sh_1 {x : Int} (h0 : 0 ≤ x) (h : x < 65536) : IntKind.u64.wrap (x * 2 ^ min (Int.toNat 1) IntKind.u64.bits) = 2 * x := by
  show IntKind.u64.wrap (x * 2 ^ 1) = 2 * x
  rw [IntKind.wrap_u64]; omega
theorem x_bd (h : List Bool) {k : Nat} (hk : k < 256) : 0 ≤ (partsN h k).getD (k / 16) 0 ∧ (partsN h k).getD (k / 16) 0 < 65536 := by
  have h1 := parts_at h k (k / 16) (by omega) (by omega)
  have h2 := row_lt h (k / 16) (inR k (k / 16)) (by unfold inR; omega)
  rw [h1]; omega
theorem parts_n {h : List Bool} {k : Nat} (hk : k < 256) (e : h.getD (k : Int).toNat false = false) : (partsN h k).set ((k : Int) / 16).toNat (IntKind.u64.wrap ((partsN h k).getD ((k : Int) / 16).toNat 0 * 2 ^ min (Int.toNat 1) IntKind.u64.bits)) = partsN h (k + 1) := by
  have e : h.getD k false = false := e
  have hx := x_bd h hk
  rw [show ((k : Int) / 16).toNat = k / 16 by omega, sh_1 hx.1 hx.2, partsN, e]
  congr 1
  show _ = _ + ((0 : Nat) : Int)
  omega
theorem parts_y {h : List Bool} {k : Nat} (hk : k < 256) (e : h.getD (k : Int).toNat false = true) : ((partsN h k).set ((k : Int) / 16).toNat (IntKind.u64.wrap ((partsN h k).getD ((k : Int) / 16).toNat 0 * 2 ^ min (Int.toNat 1) IntKind.u64.bits))).set ((k : Int) / 16).toNat
    ((((((partsN h k).set ((k : Int) / 16).toNat (IntKind.u64.wrap ((partsN h k).getD ((k : Int) / 16).toNat 0 * 2 ^ min (Int.toNat 1) IntKind.u64.bits))).getD ((k : Int) / 16).toNat 0).toNat ||| Int.toNat 1 : Nat)) : Int) = partsN h (k + 1) := by
  have e : h.getD k false = true := e
  have hx := x_bd h hk
  have hl := parts_len h k
  rw [show ((k : Int) / 16).toNat = k / 16 by omega, sh_1 hx.1 hx.2, set_at _ _ _ (by omega), List.set_set, partsN, e]
  congr 1
  generalize (partsN h k).getD (k / 16) 0 = x at *
  obtain ⟨n, rfl⟩ : ∃ n : Nat, x = n := ⟨x.toNat, by omega⟩
  rw [show (2 * (n : Int)).toNat = 2 ^ 1 * n by omega, show Int.toNat 1 = 1 from rfl, ← Nat.two_pow_add_eq_or_of_lt (show 1 < 2 ^ 1 by decide) n]
  show _ = _ + ((1 : Nat) : Int)
  omega
theorem fr_n {h : List Bool} {k : Nat} (e : h.getD (k : Int).toNat false = false) : frN h k = frN h (k + 1) := by
  have e : h.getD k false = false := e
  rw [frN, if_neg (by rw [e]; decide)]
theorem fr_y {h : List Bool} {k : Nat} (hk : k < 256) (e : h.getD (k : Int).toNat false = true) : (((frN h k : Nat) : Int).toNat ||| (IntKind.u64.wrap (1 * 2 ^ min (15 - (k : Int) / 16).toNat IntKind.u64.bits)).toNat) = frN h (k + 1) := by
  have e : h.getD k false = true := e
  have h1 : min (15 - (k : Int) / 16).toNat IntKind.u64.bits = 15 - k / 16 := by
    rw [show IntKind.u64.bits = 64 from rfl]; omega
  have h2 : 2 ^ (15 - k / 16) ≤ 2 ^ 15 := Nat.pow_le_pow_right (by omega) (by omega)
  have h3 : ((2 : Int) ^ (15 - k / 16)) = ((2 ^ (15 - k / 16) : Nat) : Int) := by simp
  rw [h1, h3, frN, if_pos e, IntKind.wrap_u64, Int.toNat_natCast]
  generalize 2 ^ (15 - k / 16) = p at *
  rw [show ((1 * (p : Int)) % 18446744073709551616).toNat = p by omega]

set_option maxRecDepth 100000 in
set_option maxHeartbeats 1000000 in
theorem lay_s (b : List Bool) (x : Int) (h0 : 0 ≤ x) (h1 : x < 18446744073709551616) (hb : b.length ≤ 1000000) :
    FMem Try.prog 22 [Is (.int .u64 x), Ptr 1 0] [(1, .var 25 [Is (.string (pack b)), Is (.int .i64 (b.length : Int))])] (Is (.tuple #[])) [(1, .var 25 [Is (.string (pack (b ++ num x.toNat 16))), Is (.int .i64 ((b ++ num x.toNat 16).length : Int))])] := by
  refine FMem.of Try.func22 Try.ntmps22 rfl (by kernel_rfl) rfl rfl rfl ?_
  refine W_regionE (c := 1) (c' := 8) (by kernel_rfl) rfl ?_
  refine Runs_p rfl (Valid.loadagg rfl ag25 sz25 rfl rfl (Nat.le_of_ble_eq_true rfl)) rfl rfl ?_ -- used.go:40 load
  refine Runs_p rfl (Valid.movek (A := Is _) rfl rfl) rfl rfl ?_ -- used.go:40 move
  refine Runs_p rfl (Valid.call rfl (put_f b _ x 16 x.toNat 16 rfl (by omega) rfl (by omega) (by omega) (by omega)) ⟨argle rfl, argle rfl, argle rfl, trivial⟩) rfl rfl ?_ -- used.go:40 call
  refine Runs_p rfl (Valid.movek (A := Tup [Agg [Is _, Is _], Is _]) rfl rfl) rfl rfl ?_ -- used.go:40 move
  refine Runs_p rfl (Valid.extract _ rfl rfl rfl) rfl rfl ?_ -- used.go:40 extract
  refine Runs_p rfl (Valid.extract _ rfl rfl rfl) rfl rfl ?_ -- used.go:40 extract
  refine Runs_op rfl (Valid.storeagg (l := [_, _]) rfl sz25 rfl rfl (Nat.le_of_ble_eq_true rfl) rfl ⟨(One.is rfl rfl rfl), (One.is rfl rfl rfl), trivial⟩) rfl ?_ -- used.go:40 store
  refine Runs_nil ?_
  refine finMQ_n ?_
  exact FinM.of [] (ResOk.none rfl (fun _ _ => rfl)) rfl ⟨hp_var rfl ⟨(leq_is rfl rfl (by rfl)), (leq_is rfl rfl (by rfl)), trivial⟩, trivial⟩ rfl rfl

set_option maxRecDepth 100000 in
set_option maxHeartbeats 1000000 in
theorem map_s (s : ByteArray) (hs : s.size ≤ 1000000000000) :
    FPure Try.prog 11 [Is (.string s)] (Agg [Is (.string (pack (mapB s))), Is (.int .i64 ((mapB s).length : Int))]) := by
  refine FPure.of Try.func11 Try.ntmps11 rfl (by kernel_rfl) rfl rfl rfl ?_
  refine W_seq ?_
  refine W_regionE (c := 1) (c' := 2) (by kernel_rfl) rfl ?_
  refine Runs_w rfl (Valid.alloc [(Value.string ⟨#[]⟩), (Value.int .i64 0)] rfl zv25 rfl) rfl rfl ?_ -- used.go:35 alloc
  refine Runs_nil ?_
  refine thenQ_n ?_
  refine W_seq ?_
  refine W_regionE (c := 2) (c' := 6) (by kernel_rfl) rfl ?_
  refine Runs_p rfl (Valid.movek (A := Is _) rfl rfl) rfl rfl ?_ -- used.go:36 move
  refine Runs_p rfl (Valid.call rfl (bytes_s _ (by omega)) ⟨argle rfl, trivial⟩) rfl rfl ?_ -- used.go:36 call
  refine Runs_w rfl (Valid.allocarr (f := Value.bool) (zg := false) (n := 256) rfl zv44 (by kernel_rfl)) rfl rfl ?_ -- used.go:36 alloc
  refine Runs_op rfl (Valid.storeall rfl sz44 rfl rfl (by first | exact hasV_len s | rfl | (rw [List.length_replicate])) rfl (by first | exact hasV_len s | rfl | (rw [List.length_replicate])) (fun _ => rfl)) rfl ?_ -- used.go:36 store
  refine Runs_nil ?_
  refine thenQ_n ?_
  refine W_seq ?_
  refine W_regionE (c := 6) (c' := 7) (by kernel_rfl) rfl ?_
  refine Runs_w rfl (Valid.alloc [(Value.string ⟨#[]⟩), (Value.int .i64 0)] rfl zv25 rfl) rfl rfl ?_ -- used.go:37 alloc
  refine Runs_nil ?_
  refine thenQ_n ?_
  refine W_seq ?_
  refine W_regionE (c := 7) (c' := 9) (by kernel_rfl) rfl ?_
  refine Runs_p rfl (Valid.makefunc rfl) rfl rfl ?_ -- used.go:38 makeFunc
  refine Runs_p rfl (Valid.assignk (A := FnV 22 [] [Ptr 48 0]) rfl rfl) rfl rfl ?_ -- used.go:38 assign
  refine Runs_nil ?_
  refine thenQ_n ?_
  refine W_seq ?_
  refine W_regionE (c := 9) (c' := 10) (by kernel_rfl) rfl ?_
  refine Runs_w rfl (Valid.allocarr (f := Value.int .u64) (zg := 0) (n := 16) rfl zv50 (by kernel_rfl)) rfl rfl ?_ -- used.go:42 alloc
  refine Runs_nil ?_
  refine thenQ_n ?_
  refine W_seq ?_
  refine W_regionE (c := 10) (c' := 11) (by kernel_rfl) rfl ?_
  refine Runs_p rfl (Valid.assignk (A := Is _) rfl rfl) rfl rfl ?_ -- used.go:43 assign
  refine Runs_nil ?_
  refine thenQ_n ?_
  refine W_seq ?_
  refine W_seq ?_
  refine W_regionE (c := 11) (c' := 12) (by kernel_rfl) rfl ?_
  refine Runs_p rfl (Valid.movek (A := Is _) rfl rfl) rfl rfl ?_ -- used.go:44 move
  refine Runs_nil ?_
  refine thenQ_n ?_
  refine W_block ?_
  refine W_loopx (G := Nat) (fun (k : Nat) => k ≤ 256) [(2, Ptr 8 0), (3, Ptr 32 0), (4, Ptr 48 0), (5, FnV 22 [] [Ptr 48 0]), (6, Ptr 72 0)] (fun (k : Nat) => [(14, Is (.int .i64 (k : Int))), (7, Is (.int .u64 ((frN (hasV s) k : Nat) : Int)))]) [(8, .var 25 [Is _, Is _]), (48, .var 25 [Is _, Is _])] (fun (k : Nat) => [(32, .var 44 (Arr (Value.bool) (hasV s))), (72, .var 50 (Arr (Value.int .u64) (partsN (hasV s) k)))]) 12 (fun (k : Nat) => 256 - k) (0) [] (by first | trivial | omega | (simp; omega)) ⟨⟨(leq_is rfl rfl (by first | rfl | exact parts_0 _ | (rw [frN]; rfl))), (leq_is rfl rfl (by first | rfl | exact parts_0 _ | (rw [frN]; rfl))), trivial⟩, ⟨(leq_ptr rfl rfl rfl), (leq_ptr rfl rfl rfl), (leq_ptr rfl rfl rfl), (leq_fn rfl rfl trivial ⟨(leq_ptr rfl rfl rfl), trivial⟩), (leq_ptr rfl rfl rfl), trivial⟩, ⟨hp_arr rfl (by first | rfl | exact parts_0 _ | (rw [frN]; rfl)), hp_arr rfl (by first | rfl | exact parts_0 _ | (rw [frN]; rfl)), trivial⟩, ⟨hp_var rfl ⟨(leq_is rfl rfl rfl), (leq_is rfl rfl rfl), trivial⟩, hp_var rfl ⟨(leq_is rfl rfl rfl), (leq_is rfl rfl rfl), trivial⟩, trivial⟩, rfl, ⟨supg rfl, supg rfl, trivial⟩, ⟨supg rfl, supg rfl, supg rfl, supg rfl, supg rfl, trivial⟩, ⟨suph_arr rfl, suph_arr rfl, trivial⟩, ⟨suph rfl rfl, suph rfl rfl, trivial⟩, rfl, rfl⟩ ?_
  intro k hI1
  refine W_seq ?_
  refine W_regionE (c := 12) (c' := 13) (by kernel_rfl) rfl ?_
  refine Runs_p rfl (Valid.lss rfl rfl rfl) rfl rfl ?_ -- used.go:44 binOp
  refine Runs_nil ?_
  refine thenQ_n ?_
  refine W_seq ?_
  refine W_cond _ rfl (fun hb1 => ?_) (fun hb1 => ?_)
  · try simp only [decide_eq_true_eq] at hb1
    all_goals (
      refine W_skip ?_
      refine thenQ_n ?_
      refine W_seq ?_
      refine W_block ?_
      refine W_seq ?_
      refine W_regionE (c := 13) (c' := 15) (by kernel_rfl) rfl ?_
      refine Runs_p rfl (Valid.movek (A := Is _) rfl rfl) rfl rfl ?_ -- used.go:44 move
      refine Runs_p rfl (Valid.assignk (A := Is _) rfl rfl) rfl rfl ?_ -- used.go:44 assign
      refine Runs_nil ?_
      refine thenQ_n ?_
      refine W_seq ?_
      have hpl := parts_len (hasV s) k
      have hpa := parts_at (hasV s) k (k / 16) (by omega) (by omega)
      have hvl := hasV_len s
      have hfr := fr_lt (hasV s) k (by omega)
      have hrl := row_lt (hasV s) (k / 16) (inR k (k / 16)) (by unfold inR; omega)
      have hkk : ((k : Int) / 16).toNat = k / 16 := by omega
      refine W_regionE (c := 15) (c' := 22) (by kernel_rfl) rfl ?_
      refine Runs_p rfl (Valid.movek (A := Is _) rfl rfl) rfl rfl ?_ -- used.go:45 move
      refine Runs_p rfl (Valid.quo rfl rfl rfl (by first | omega | (simp only [Int.toNat_natCast, toNat_add, toNat_add1, List.length_append, List.length_cons, List.length_nil, List.length_replicate]; omega)) (by first | omega | (simp only [Int.toNat_natCast, toNat_add, toNat_add1, List.length_append, List.length_cons, List.length_nil, List.length_replicate]; omega)) (room64 (by first | omega | (simp only [Int.toNat_natCast, toNat_add, toNat_add1, List.length_append, List.length_cons, List.length_nil, List.length_replicate]; omega)) (by first | omega | (simp only [Int.toNat_natCast, toNat_add, toNat_add1, List.length_append, List.length_cons, List.length_nil, List.length_replicate]; omega)))) rfl rfl ?_ -- used.go:45 binOp
      refine Runs_p rfl (Valid.idxarr1 rfl Try.underlying50 sz47 rfl rfl (by first | omega | (simp only [Int.toNat_natCast, toNat_add, toNat_add1, List.length_append, List.length_cons, List.length_nil, List.length_replicate]; omega))) rfl rfl ?_ -- used.go:45 indexAddr
      refine Runs_p rfl (Valid.loadarr 0 rfl ag47 rfl rfl (by first | omega | (simp only [Int.toNat_natCast, toNat_add, toNat_add1, List.length_append, List.length_cons, List.length_nil, List.length_replicate]; omega))) rfl rfl ?_ -- used.go:45 load
      refine Runs_p rfl (Valid.shlw rfl rfl rfl (by first | omega | (simp only [Int.toNat_natCast, toNat_add, toNat_add1, List.length_append, List.length_cons, List.length_nil, List.length_replicate]; omega))) rfl rfl ?_ -- used.go:45 binOp
      refine Runs_p rfl (Valid.idxarr1 rfl Try.underlying50 sz47 rfl rfl (by first | omega | (simp only [Int.toNat_natCast, toNat_add, toNat_add1, List.length_append, List.length_cons, List.length_nil, List.length_replicate]; omega))) rfl rfl ?_ -- used.go:45 indexAddr
      refine Runs_op rfl (Valid.storearr _ rfl sz47 rfl rfl (by first | omega | (simp only [Int.toNat_natCast, toNat_add, toNat_add1, List.length_append, List.length_cons, List.length_nil, List.length_replicate]; omega)) rfl (One.is rfl rfl rfl)) rfl ?_ -- used.go:45 store
      refine Runs_nil ?_
      refine thenQ_n ?_
      refine W_seq ?_
      refine W_regionE (c := 22) (c' := 25) (by kernel_rfl) rfl ?_
      refine Runs_p rfl (Valid.movek (A := Is _) rfl rfl) rfl rfl ?_ -- used.go:46 move
      refine Runs_p rfl (Valid.idxarr1 rfl Try.underlying44 sz4 rfl rfl (by first | omega | (simp only [Int.toNat_natCast, toNat_add, toNat_add1, List.length_append, List.length_cons, List.length_nil, List.length_replicate]; omega))) rfl rfl ?_ -- used.go:46 indexAddr
      refine Runs_p rfl (Valid.loadarr false rfl ag4 rfl rfl (by first | omega | (simp only [Int.toNat_natCast, toNat_add, toNat_add1, List.length_append, List.length_cons, List.length_nil, List.length_replicate]; omega))) rfl rfl ?_ -- used.go:46 load
      refine Runs_nil ?_
      refine thenQ_n ?_
      refine W_cond _ rfl (fun hb2 => ?_) (fun hb2 => ?_)
      · try simp only [Int.toNat_natCast] at hb2
        all_goals (
          refine W_seq ?_
          have hll2 : ∀ z : Int, ((partsN (hasV s) k).set ((k : Int) / 16).toNat z).length = 16 := fun z => by rw [List.length_set, hpl]
          refine W_regionE (c := 25) (c' := 32) (by kernel_rfl) rfl ?_
          refine Runs_p rfl (Valid.movek (A := Is _) rfl rfl) rfl rfl ?_ -- used.go:47 move
          refine Runs_p rfl (Valid.quo rfl rfl rfl (by first | omega | (simp only [Int.toNat_natCast, toNat_add, toNat_add1, List.length_append, List.length_cons, List.length_nil, List.length_replicate]; omega)) (by first | omega | (simp only [Int.toNat_natCast, toNat_add, toNat_add1, List.length_append, List.length_cons, List.length_nil, List.length_replicate]; omega)) (room64 (by first | omega | (simp only [Int.toNat_natCast, toNat_add, toNat_add1, List.length_append, List.length_cons, List.length_nil, List.length_replicate]; omega)) (by first | omega | (simp only [Int.toNat_natCast, toNat_add, toNat_add1, List.length_append, List.length_cons, List.length_nil, List.length_replicate]; omega)))) rfl rfl ?_ -- used.go:47 binOp
          refine Runs_p rfl (Valid.idxarr1 rfl Try.underlying50 sz47 rfl rfl (by first | omega | (simp only [Int.toNat_natCast, toNat_add, toNat_add1, List.length_append, List.length_cons, List.length_nil, List.length_replicate]; omega))) rfl rfl ?_ -- used.go:47 indexAddr
          refine Runs_p rfl (Valid.loadarr 0 rfl ag47 rfl rfl (by rw [hll2]; omega)) rfl rfl ?_ -- used.go:47 load
          refine Runs_p rfl (Valid.bits rfl rfl rfl (fun w => or_i _ _ (by rw [set_at _ _ _ (by rw [hpl]; omega), IntKind.wrap_u64]; omega) (by decide) w)) rfl rfl ?_ -- used.go:47 binOp
          refine Runs_p rfl (Valid.idxarr1 rfl Try.underlying50 sz47 rfl rfl (by first | omega | (simp only [Int.toNat_natCast, toNat_add, toNat_add1, List.length_append, List.length_cons, List.length_nil, List.length_replicate]; omega))) rfl rfl ?_ -- used.go:47 indexAddr
          refine Runs_op rfl (Valid.storearr _ rfl sz47 rfl rfl (by rw [hll2]; omega) rfl (One.is rfl rfl rfl)) rfl ?_ -- used.go:47 store
          refine Runs_nil ?_
          refine thenQ_n ?_
          refine W_regionE (c := 32) (c' := 39) (by kernel_rfl) rfl ?_
          refine Runs_p rfl (Valid.movek (A := Is _) rfl rfl) rfl rfl ?_ -- used.go:48 move
          refine Runs_p rfl (Valid.movek (A := Is _) rfl rfl) rfl rfl ?_ -- used.go:48 move
          refine Runs_p rfl (Valid.quo rfl rfl rfl (by first | omega | (simp only [Int.toNat_natCast, toNat_add, toNat_add1, List.length_append, List.length_cons, List.length_nil, List.length_replicate]; omega)) (by first | omega | (simp only [Int.toNat_natCast, toNat_add, toNat_add1, List.length_append, List.length_cons, List.length_nil, List.length_replicate]; omega)) (room64 (by first | omega | (simp only [Int.toNat_natCast, toNat_add, toNat_add1, List.length_append, List.length_cons, List.length_nil, List.length_replicate]; omega)) (by first | omega | (simp only [Int.toNat_natCast, toNat_add, toNat_add1, List.length_append, List.length_cons, List.length_nil, List.length_replicate]; omega)))) rfl rfl ?_ -- used.go:48 binOp
          refine Runs_p rfl (Valid.sub rfl rfl rfl (room64 (by first | omega | (simp only [Int.toNat_natCast, toNat_add, toNat_add1, List.length_append, List.length_cons, List.length_nil, List.length_replicate]; omega)) (by first | omega | (simp only [Int.toNat_natCast, toNat_add, toNat_add1, List.length_append, List.length_cons, List.length_nil, List.length_replicate]; omega)))) rfl rfl ?_ -- used.go:48 binOp
          refine Runs_p rfl (Valid.shlw rfl rfl rfl (by first | omega | (simp only [Int.toNat_natCast, toNat_add, toNat_add1, List.length_append, List.length_cons, List.length_nil, List.length_replicate]; omega))) rfl rfl ?_ -- used.go:48 binOp
          refine Runs_p rfl (Valid.bits rfl rfl rfl (fun w => or_i _ _ (by omega) (by rw [IntKind.wrap_u64]; omega) w)) rfl rfl ?_ -- used.go:48 binOp
          refine Runs_p rfl (Valid.assignk (A := Is _) rfl rfl) rfl rfl ?_ -- used.go:48 assign
          refine Runs_nil ?_
          refine blockQ_n ?_
          refine thenQ_n ?_
          refine W_regionE (c := 39) (c' := 41) (by kernel_rfl) rfl ?_
          refine Runs_p rfl (Valid.add rfl rfl rfl (room64 (by first | omega | (simp only [Int.toNat_natCast, toNat_add, toNat_add1, List.length_append, List.length_cons, List.length_nil, List.length_replicate]; omega)) (by first | omega | (simp only [Int.toNat_natCast, toNat_add, toNat_add1, List.length_append, List.length_cons, List.length_nil, List.length_replicate]; omega)))) rfl rfl ?_ -- used.go:44 binOp
          refine Runs_p rfl (Valid.movek (A := Is _) rfl rfl) rfl rfl ?_ -- used.go:44 move
          refine Runs_nil ?_
          refine LoopQ.next (k + 1) [] (by omega) (by omega) ⟨⟨(leq_is rfl rfl (by first | (rw [← parts_y (by omega) (by assumption)]; done) | (rw [← parts_n (by omega) (by assumption)]; done) | exact congrArg (fun n : Nat => Value.int .u64 (n : Int)) (fr_y (by omega) (by assumption)) | exact congrArg (fun n : Nat => Value.int .u64 (n : Int)) (fr_n (by assumption)) | exact congrArg (Value.int .i64) (by omega) | with_reducible rfl)), (leq_is rfl rfl (by first | (rw [← parts_y (by omega) (by assumption)]; done) | (rw [← parts_n (by omega) (by assumption)]; done) | exact congrArg (fun n : Nat => Value.int .u64 (n : Int)) (fr_y (by omega) (by assumption)) | exact congrArg (fun n : Nat => Value.int .u64 (n : Int)) (fr_n (by assumption)) | exact congrArg (Value.int .i64) (by omega) | with_reducible rfl)), trivial⟩, ⟨(leq_ptr rfl rfl rfl), (leq_ptr rfl rfl rfl), (leq_ptr rfl rfl rfl), (leq_fn rfl rfl trivial ⟨(leq_ptr rfl rfl rfl), trivial⟩), (leq_ptr rfl rfl rfl), trivial⟩, ⟨hp_arr rfl (by first | (rw [← parts_y (by omega) (by assumption)]; done) | (rw [← parts_n (by omega) (by assumption)]; done) | exact congrArg (fun n : Nat => Value.int .u64 (n : Int)) (fr_y (by omega) (by assumption)) | exact congrArg (fun n : Nat => Value.int .u64 (n : Int)) (fr_n (by assumption)) | exact congrArg (Value.int .i64) (by omega) | with_reducible rfl), hp_arr rfl (by first | (rw [← parts_y (by omega) (by assumption)]; done) | (rw [← parts_n (by omega) (by assumption)]; done) | exact congrArg (fun n : Nat => Value.int .u64 (n : Int)) (fr_y (by omega) (by assumption)) | exact congrArg (fun n : Nat => Value.int .u64 (n : Int)) (fr_n (by assumption)) | exact congrArg (Value.int .i64) (by omega) | with_reducible rfl), trivial⟩, ⟨hp_var rfl ⟨(leq_is rfl rfl rfl), (leq_is rfl rfl rfl), trivial⟩, hp_var rfl ⟨(leq_is rfl rfl rfl), (leq_is rfl rfl rfl), trivial⟩, trivial⟩, rfl, ⟨supg rfl, supg rfl, trivial⟩, ⟨supg rfl, supg rfl, supg rfl, supg rfl, supg rfl, trivial⟩, ⟨suph_arr rfl, suph_arr rfl, trivial⟩, ⟨suph rfl rfl, suph rfl rfl, trivial⟩, rfl, rfl⟩
          done)
      · try simp only [Int.toNat_natCast] at hb2
        all_goals (
          refine W_skip ?_
          refine blockQ_n ?_
          refine thenQ_n ?_
          refine W_regionE (c := 25) (c' := 27) (by kernel_rfl) rfl ?_
          refine Runs_p rfl (Valid.add rfl rfl rfl (room64 (by first | omega | (simp only [Int.toNat_natCast, toNat_add, toNat_add1, List.length_append, List.length_cons, List.length_nil, List.length_replicate]; omega)) (by first | omega | (simp only [Int.toNat_natCast, toNat_add, toNat_add1, List.length_append, List.length_cons, List.length_nil, List.length_replicate]; omega)))) rfl rfl ?_ -- used.go:44 binOp
          refine Runs_p rfl (Valid.movek (A := Is _) rfl rfl) rfl rfl ?_ -- used.go:44 move
          refine Runs_nil ?_
          refine LoopQ.next (k + 1) [] (by omega) (by omega) ⟨⟨(leq_is rfl rfl (by first | (rw [← parts_y (by omega) (by assumption)]; done) | (rw [← parts_n (by omega) (by assumption)]; done) | exact congrArg (fun n : Nat => Value.int .u64 (n : Int)) (fr_y (by omega) (by assumption)) | exact congrArg (fun n : Nat => Value.int .u64 (n : Int)) (fr_n (by assumption)) | exact congrArg (Value.int .i64) (by omega) | with_reducible rfl)), (leq_is rfl rfl (by first | (rw [← parts_y (by omega) (by assumption)]; done) | (rw [← parts_n (by omega) (by assumption)]; done) | exact congrArg (fun n : Nat => Value.int .u64 (n : Int)) (fr_y (by omega) (by assumption)) | exact congrArg (fun n : Nat => Value.int .u64 (n : Int)) (fr_n (by assumption)) | exact congrArg (Value.int .i64) (by omega) | with_reducible rfl)), trivial⟩, ⟨(leq_ptr rfl rfl rfl), (leq_ptr rfl rfl rfl), (leq_ptr rfl rfl rfl), (leq_fn rfl rfl trivial ⟨(leq_ptr rfl rfl rfl), trivial⟩), (leq_ptr rfl rfl rfl), trivial⟩, ⟨hp_arr rfl (by first | (rw [← parts_y (by omega) (by assumption)]; done) | (rw [← parts_n (by omega) (by assumption)]; done) | exact congrArg (fun n : Nat => Value.int .u64 (n : Int)) (fr_y (by omega) (by assumption)) | exact congrArg (fun n : Nat => Value.int .u64 (n : Int)) (fr_n (by assumption)) | exact congrArg (Value.int .i64) (by omega) | with_reducible rfl), hp_arr rfl (by first | (rw [← parts_y (by omega) (by assumption)]; done) | (rw [← parts_n (by omega) (by assumption)]; done) | exact congrArg (fun n : Nat => Value.int .u64 (n : Int)) (fr_y (by omega) (by assumption)) | exact congrArg (fun n : Nat => Value.int .u64 (n : Int)) (fr_n (by assumption)) | exact congrArg (Value.int .i64) (by omega) | with_reducible rfl), trivial⟩, ⟨hp_var rfl ⟨(leq_is rfl rfl rfl), (leq_is rfl rfl rfl), trivial⟩, hp_var rfl ⟨(leq_is rfl rfl rfl), (leq_is rfl rfl rfl), trivial⟩, trivial⟩, rfl, ⟨supg rfl, supg rfl, trivial⟩, ⟨supg rfl, supg rfl, supg rfl, supg rfl, supg rfl, trivial⟩, ⟨suph_arr rfl, suph_arr rfl, trivial⟩, ⟨suph rfl rfl, suph rfl rfl, trivial⟩, rfl, rfl⟩
          done)
      done)
  · try simp only [decide_eq_false_iff_not] at hb1
    all_goals (
      refine W_exit ?_
      refine thenQ_e ?_
      refine loopQ_e ?_
      refine blockQ_x ?_
      refine thenQ_n ?_
      refine W_seq ?_
      obtain rfl : k = 256 := by omega
      have hfr := fr_lt (hasV s) 256 (by omega)
      have hnl := num_len (frN (hasV s) 256) 16
      refine W_regionE (c := 13) (c' := 16) (by kernel_rfl) rfl ?_
      refine Runs_p rfl (Valid.movek (A := FnV 22 [] [Ptr 48 0]) rfl rfl) rfl rfl ?_ -- used.go:51 move
      refine Runs_p rfl (Valid.movek (A := Is _) rfl rfl) rfl rfl ?_ -- used.go:51 move
      refine Runs_w rfl (Valid.callm [(1, 48)] rfl (.inr ⟨_, _, rfl, rfl⟩) (lay_s [] _ (by omega) (by omega) (by decide)) ⟨(leq_is rfl rfl rfl), (leq_ptr rfl rfl rfl), trivial⟩ ⟨⟨_, rfl, .var ⟨(leq_is rfl rfl rfl), (leq_is rfl rfl rfl), trivial⟩⟩, trivial⟩ (up_pure rfl) (hpup_cons (j := 48) rfl (cup_var (allup_cons (up_pure rfl) (allup_cons (up_pure rfl) allup_nil))) hpup_nil) (by kernel_rfl) (by kernel_rfl) (by kernel_rfl) (by kernel_rfl) (by kernel_rfl) (by kernel_rfl) (by kernel_rfl) (by kernel_rfl) (by kernel_rfl)) rfl rfl ?_ -- used.go:51 call
      refine Runs_nil ?_
      refine thenQ_n ?_
      refine W_seq ?_
      refine W_seq ?_
      refine W_regionE (c := 16) (c' := 18) (by kernel_rfl) rfl ?_
      refine Runs_p rfl (Valid.loadall rfl ag50 sz50 rfl rfl (parts_len _ _)) rfl rfl ?_ -- used.go:52 load
      refine Runs_p rfl (Valid.movek (A := Is _) rfl rfl) rfl rfl ?_ -- used.go:52 move
      refine Runs_nil ?_
      refine thenQ_n ?_
      refine W_block ?_
      refine W_loopx (G := Nat) (fun (j : Nat) => j ≤ 16) [(2, Ptr 8 0), (4, Ptr 48 0), (5, FnV 22 [] [Ptr 48 0]), (42, Is _)] (fun (j : Nat) => [(43, Is (.int .i64 (j : Int)))]) [(8, .var 25 [Is _, Is _])] (fun (j : Nat) => [(48, .var 25 [Is (.string (pack (layB (hasV s) j))), Is (.int .i64 ((layB (hasV s) j).length : Int))])]) 18 (fun (j : Nat) => 16 - j) (0) [] (by first | trivial | omega | (simp; omega)) ⟨⟨(leq_is rfl rfl (by first | rfl | exact congrArg (fun b => Value.string (pack b)) (layB_0 _) | exact congrArg (fun b : List Bool => Value.int .i64 (b.length : Int)) (layB_0 _))), trivial⟩, ⟨(leq_ptr rfl rfl rfl), (leq_ptr rfl rfl rfl), (leq_fn rfl rfl trivial ⟨(leq_ptr rfl rfl rfl), trivial⟩), (leq_is rfl rfl rfl), trivial⟩, ⟨hp_var rfl ⟨(leq_is rfl rfl (by first | rfl | exact congrArg (fun b => Value.string (pack b)) (layB_0 _) | exact congrArg (fun b : List Bool => Value.int .i64 (b.length : Int)) (layB_0 _))), (leq_is rfl rfl (by first | rfl | exact congrArg (fun b => Value.string (pack b)) (layB_0 _) | exact congrArg (fun b : List Bool => Value.int .i64 (b.length : Int)) (layB_0 _))), trivial⟩, trivial⟩, ⟨hp_var rfl ⟨(leq_is rfl rfl rfl), (leq_is rfl rfl rfl), trivial⟩, trivial⟩, rfl, ⟨supg rfl, trivial⟩, ⟨supg rfl, supg rfl, supg rfl, supg rfl, trivial⟩, ⟨suph rfl rfl, trivial⟩, ⟨suph rfl rfl, trivial⟩, rfl, rfl⟩ ?_
      intro j hI2
      have hll := layB_le (hasV s) j
      refine W_seq ?_
      refine W_regionE (c := 18) (c' := 19) (by kernel_rfl) rfl ?_
      refine Runs_p rfl (Valid.lss rfl rfl rfl) rfl rfl ?_ -- used.go:52 binOp
      refine Runs_nil ?_
      refine thenQ_n ?_
      refine W_seq ?_
      refine W_cond _ rfl (fun hb3 => ?_) (fun hb3 => ?_)
      · try simp only [decide_eq_true_eq] at hb3
        all_goals (
          refine W_skip ?_
          refine thenQ_n ?_
          refine W_seq ?_
          refine W_block ?_
          refine W_seq ?_
          refine W_regionE (c := 19) (c' := 21) (by kernel_rfl) rfl ?_
          refine Runs_p rfl (Valid.indexall 0 rfl Try.underlying50 ag47 sz47 rfl rfl (parts_len _ _) (by first | omega | (simp only [Int.toNat_natCast, toNat_add, toNat_add1, List.length_append, List.length_cons, List.length_nil, List.length_replicate]; omega))) rfl rfl ?_ -- used.go:52 index
          refine Runs_p rfl (Valid.assignk (A := Is _) rfl rfl) rfl rfl ?_ -- used.go:52 assign
          refine Runs_nil ?_
          refine thenQ_n ?_
          refine W_seq ?_
          have hpj := parts_at (hasV s) 256 j (by omega) (by omega)
          have hrj := row_lt (hasV s) j (inR 256 j) (by unfold inR; omega)
          have hjj : (partsN (hasV s) 256).getD (j : Int).toNat 0 = (partsN (hasV s) 256).getD j 0 := rfl
          refine W_regionE (c := 21) (c' := 23) (by kernel_rfl) rfl ?_
          refine Runs_p rfl (Valid.movek (A := Is _) rfl rfl) rfl rfl ?_ -- used.go:53 move
          refine Runs_p rfl (Valid.neq rfl rfl rfl) rfl rfl ?_ -- used.go:53 binOp
          refine Runs_nil ?_
          refine thenQ_n ?_
          refine W_cond _ rfl (fun hb4 => ?_) (fun hb4 => ?_)
          · try simp only [Int.toNat_natCast, decide_eq_true_eq, ne_eq] at hb4
            all_goals (
              refine W_regionE (c := 23) (c' := 26) (by kernel_rfl) rfl ?_
              refine Runs_p rfl (Valid.movek (A := FnV 22 [] [Ptr 48 0]) rfl rfl) rfl rfl ?_ -- used.go:54 move
              refine Runs_p rfl (Valid.movek (A := Is _) rfl rfl) rfl rfl ?_ -- used.go:54 move
              refine Runs_w rfl (Valid.callm [(1, 48)] rfl (.inr ⟨_, _, rfl, rfl⟩) (lay_s (layB (hasV s) j) _ (by omega) (by omega) (by omega)) ⟨(leq_is rfl rfl rfl), (leq_ptr rfl rfl rfl), trivial⟩ ⟨⟨_, rfl, .var ⟨(leq_is rfl rfl rfl), (leq_is rfl rfl rfl), trivial⟩⟩, trivial⟩ (up_pure rfl) (hpup_cons (j := 48) rfl (cup_var (allup_cons (up_pure rfl) (allup_cons (up_pure rfl) allup_nil))) hpup_nil) (by kernel_rfl) (by kernel_rfl) (by kernel_rfl) (by kernel_rfl) (by kernel_rfl) (by kernel_rfl) (by kernel_rfl) (by kernel_rfl) (by kernel_rfl)) rfl rfl ?_ -- used.go:54 call
              refine Runs_nil ?_
              refine blockQ_n ?_
              refine thenQ_n ?_
              refine W_regionE (c := 26) (c' := 28) (by kernel_rfl) rfl ?_
              refine Runs_p rfl (Valid.add rfl rfl rfl (room64 (by first | omega | (simp only [Int.toNat_natCast, toNat_add, toNat_add1, List.length_append, List.length_cons, List.length_nil, List.length_replicate]; omega)) (by first | omega | (simp only [Int.toNat_natCast, toNat_add, toNat_add1, List.length_append, List.length_cons, List.length_nil, List.length_replicate]; omega)))) rfl rfl ?_ -- used.go:52 binOp
              refine Runs_p rfl (Valid.movek (A := Is _) rfl rfl) rfl rfl ?_ -- used.go:52 move
              refine Runs_nil ?_
              refine LoopQ.next (j + 1) [] (by omega) (by omega) ⟨⟨(leq_is rfl rfl (by first | rfl | exact congrArg (fun b => Value.string (pack b)) (layB_y (by assumption)) | exact congrArg (fun b : List Bool => Value.int .i64 (b.length : Int)) (layB_y (by assumption)) | exact congrArg (fun b => Value.string (pack b)) (layB_n (by omega)) | exact congrArg (fun b : List Bool => Value.int .i64 (b.length : Int)) (layB_n (by omega)))), trivial⟩, ⟨(leq_ptr rfl rfl rfl), (leq_ptr rfl rfl rfl), (leq_fn rfl rfl trivial ⟨(leq_ptr rfl rfl rfl), trivial⟩), (leq_is rfl rfl rfl), trivial⟩, ⟨hp_var rfl ⟨(leq_is rfl rfl (by first | rfl | exact congrArg (fun b => Value.string (pack b)) (layB_y (by assumption)) | exact congrArg (fun b : List Bool => Value.int .i64 (b.length : Int)) (layB_y (by assumption)) | exact congrArg (fun b => Value.string (pack b)) (layB_n (by omega)) | exact congrArg (fun b : List Bool => Value.int .i64 (b.length : Int)) (layB_n (by omega)))), (leq_is rfl rfl (by first | rfl | exact congrArg (fun b => Value.string (pack b)) (layB_y (by assumption)) | exact congrArg (fun b : List Bool => Value.int .i64 (b.length : Int)) (layB_y (by assumption)) | exact congrArg (fun b => Value.string (pack b)) (layB_n (by omega)) | exact congrArg (fun b : List Bool => Value.int .i64 (b.length : Int)) (layB_n (by omega)))), trivial⟩, trivial⟩, ⟨hp_var rfl ⟨(leq_is rfl rfl rfl), (leq_is rfl rfl rfl), trivial⟩, trivial⟩, rfl, ⟨supg rfl, trivial⟩, ⟨supg rfl, supg rfl, supg rfl, supg rfl, trivial⟩, ⟨suph rfl rfl, trivial⟩, ⟨suph rfl rfl, trivial⟩, rfl, rfl⟩
              done)
          · try simp only [Int.toNat_natCast, decide_eq_false_iff_not, ne_eq] at hb4
            all_goals (
              refine W_skip ?_
              refine blockQ_n ?_
              refine thenQ_n ?_
              refine W_regionE (c := 23) (c' := 25) (by kernel_rfl) rfl ?_
              refine Runs_p rfl (Valid.add rfl rfl rfl (room64 (by first | omega | (simp only [Int.toNat_natCast, toNat_add, toNat_add1, List.length_append, List.length_cons, List.length_nil, List.length_replicate]; omega)) (by first | omega | (simp only [Int.toNat_natCast, toNat_add, toNat_add1, List.length_append, List.length_cons, List.length_nil, List.length_replicate]; omega)))) rfl rfl ?_ -- used.go:52 binOp
              refine Runs_p rfl (Valid.movek (A := Is _) rfl rfl) rfl rfl ?_ -- used.go:52 move
              refine Runs_nil ?_
              refine LoopQ.next (j + 1) [] (by omega) (by omega) ⟨⟨(leq_is rfl rfl (by first | rfl | exact congrArg (fun b => Value.string (pack b)) (layB_y (by assumption)) | exact congrArg (fun b : List Bool => Value.int .i64 (b.length : Int)) (layB_y (by assumption)) | exact congrArg (fun b => Value.string (pack b)) (layB_n (by omega)) | exact congrArg (fun b : List Bool => Value.int .i64 (b.length : Int)) (layB_n (by omega)))), trivial⟩, ⟨(leq_ptr rfl rfl rfl), (leq_ptr rfl rfl rfl), (leq_fn rfl rfl trivial ⟨(leq_ptr rfl rfl rfl), trivial⟩), (leq_is rfl rfl rfl), trivial⟩, ⟨hp_var rfl ⟨(leq_is rfl rfl (by first | rfl | exact congrArg (fun b => Value.string (pack b)) (layB_y (by assumption)) | exact congrArg (fun b : List Bool => Value.int .i64 (b.length : Int)) (layB_y (by assumption)) | exact congrArg (fun b => Value.string (pack b)) (layB_n (by omega)) | exact congrArg (fun b : List Bool => Value.int .i64 (b.length : Int)) (layB_n (by omega)))), (leq_is rfl rfl (by first | rfl | exact congrArg (fun b => Value.string (pack b)) (layB_y (by assumption)) | exact congrArg (fun b : List Bool => Value.int .i64 (b.length : Int)) (layB_y (by assumption)) | exact congrArg (fun b => Value.string (pack b)) (layB_n (by omega)) | exact congrArg (fun b : List Bool => Value.int .i64 (b.length : Int)) (layB_n (by omega)))), trivial⟩, trivial⟩, ⟨hp_var rfl ⟨(leq_is rfl rfl rfl), (leq_is rfl rfl rfl), trivial⟩, trivial⟩, rfl, ⟨supg rfl, trivial⟩, ⟨supg rfl, supg rfl, supg rfl, supg rfl, trivial⟩, ⟨suph rfl rfl, trivial⟩, ⟨suph rfl rfl, trivial⟩, rfl, rfl⟩
              done)
          done)
      · try simp only [decide_eq_false_iff_not] at hb3
        all_goals (
          refine W_exit ?_
          refine thenQ_e ?_
          refine loopQ_e ?_
          refine blockQ_x ?_
          refine thenQ_n ?_
          refine W_seq ?_
          refine W_regionE (c := 19) (c' := 21) (by kernel_rfl) rfl ?_
          refine Runs_p rfl (Valid.loadagg rfl ag25 sz25 rfl rfl (Nat.le_of_ble_eq_true rfl)) rfl rfl ?_ -- used.go:57 load
          refine Runs_op rfl (Valid.storeagg (l := [_, _]) rfl sz25 rfl rfl (Nat.le_of_ble_eq_true rfl) rfl ⟨(One.is rfl rfl rfl), (One.is rfl rfl rfl), trivial⟩) rfl ?_ -- used.go:57 store
          refine Runs_nil ?_
          refine thenQ_n ?_
          refine W_ret ?_
          refine finQ_r ?_
          refine ResOk.one rfl (RVal.cellagg ag25 sz25 rfl rfl (Nat.le_of_ble_eq_true rfl) (argle (by rw [mapB, show (16 : Nat) = j by omega]; rfl)))
          done)
      done)
end Gc
end Go.Proofs.Ytlcephckjhiggaa
