/-
  PLAIN MATHEMATICS OF BITS: bits of bytes, the highest one first; numbers as bits; bits packed into bytes.
-/
import Derived.WalkKit
namespace Go.Proofs.Ytabhnnighhglfaa
namespace Bm

def bitAt (b : UInt8) (j : Nat) : Bool := b.toNat.testBit (7 - j)
/-- the bit of a text -/
def bit (l : List UInt8) (j : Nat) : Bool := bitAt (l.getD (j / 8) 0) (j % 8)
def bitsAt (l : List UInt8) (a n : Nat) : List Bool := (List.range n).map fun i => bit l (a + i)
def val (l : List Bool) : Nat := l.foldl (fun v b => 2 * v + b.toNat) 0
def num (v n : Nat) : List Bool := (List.range n).map fun i => v.testBit (n - 1 - i)
def pk (f : Nat → Bool) : UInt8 := UInt8.ofNat (val ((List.range 8).map f))
def enc (l : List Bool) : List UInt8 := (List.range ((l.length + 7) / 8)).map fun i => pk fun j => l.getD (8 * i + j) false

theorem bitsAt_len (l : List UInt8) (a n : Nat) : (bitsAt l a n).length = n := by simp [bitsAt]
theorem num_len (v n : Nat) : (num v n).length = n := by simp [num]
theorem enc_len (l : List Bool) : (enc l).length = (l.length + 7) / 8 := by simp [enc]

theorem val_from (l : List Bool) : ∀ v, l.foldl (fun v b => 2 * v + b.toNat) v = v * 2 ^ l.length + val l := by
  induction l with
  | nil => intro v; simp [val]
  | cons b l ih =>
    intro v
    simp only [val, List.foldl_cons, List.length_cons]
    rw [ih, ih (2 * 0 + b.toNat), Nat.pow_succ]
    have e : (2 * v + b.toNat) * 2 ^ l.length = v * (2 ^ l.length * 2) + b.toNat * 2 ^ l.length := by
      rw [Nat.add_mul, Nat.mul_comm 2 v, Nat.mul_assoc, Nat.mul_comm 2 (2 ^ l.length)]
    rw [e]; simp; omega
theorem val_append (a b : List Bool) : val (a ++ b) = val a * 2 ^ b.length + val b := by
  unfold val; rw [List.foldl_append]; exact val_from b _
theorem val_lt (l : List Bool) : val l < 2 ^ l.length := by
  induction l with
  | nil => simp [val]
  | cons b l ih =>
    have h : val (b :: l) = b.toNat * 2 ^ l.length + val l := by
      have := val_append [b] l
      simpa [val] using this
    rw [h, List.length_cons, Nat.pow_succ]
    cases b <;> simp <;> omega
theorem num_succ (v n : Nat) : num v (n + 1) = v.testBit n :: num v n := by
  simp only [num, List.range_succ_eq_map, List.map_cons, List.map_map]
  congr 1
  apply List.map_congr_left
  intro i hi
  simp only [Function.comp]
  congr 1
  omega
theorem val_num (v : Nat) : ∀ n, val (num v n) = v % 2 ^ n
  | 0 => by simp [num, val, Nat.mod_one]
  | n + 1 => by
    rw [num_succ]
    have h : val (v.testBit n :: num v n) = (v.testBit n).toNat * 2 ^ n + val (num v n) := by
      have := val_append [v.testBit n] (num v n)
      simpa [val, num_len] using this
    rw [h, val_num v n, Nat.testBit_eq_decide_div_mod_eq, Nat.mod_pow_succ]
    have h2 : v / 2 ^ n % 2 < 2 := Nat.mod_lt _ (by omega)
    by_cases h3 : v / 2 ^ n % 2 = 1
    · rw [decide_eq_true h3, h3]; simp; omega
    · have h4 : v / 2 ^ n % 2 = 0 := by omega
      rw [decide_eq_false h3, h4]; simp
theorem val_inj : ∀ (a b : List Bool), a.length = b.length → val a = val b → a = b
  | [], [], _, _ => rfl
  | [], _ :: _, h, _ => by simp at h
  | _ :: _, [], h, _ => by simp at h
  | x :: a, y :: b, h, hv => by
    have hl : a.length = b.length := by simpa using h
    have h1 : val (x :: a) = x.toNat * 2 ^ a.length + val a := by have := val_append [x] a; simpa [val] using this
    have h2 : val (y :: b) = y.toNat * 2 ^ b.length + val b := by have := val_append [y] b; simpa [val] using this
    rw [h1, h2, hl] at hv
    have la := val_lt a
    have lb := val_lt b
    rw [hl] at la
    have hxy : x = y := by
      cases x <;> cases y <;> simp at hv ⊢ <;> omega
    subst hxy
    rw [val_inj a b hl (by omega)]
theorem num_val (l : List Bool) : num (val l) l.length = l :=
  val_inj _ _ (num_len _ _) (by rw [val_num, Nat.mod_eq_of_lt (val_lt l)])
theorem num_get (v n i : Nat) (h : i < n) : (num v n)[i]? = some (v.testBit (n - 1 - i)) := by
  simp [num, h]
theorem val_bit (l : List Bool) (i : Nat) (h : i < l.length) : (val l).testBit (l.length - 1 - i) = l[i] := by
  have h1 := num_get (val l) l.length i h
  rw [num_val, List.getElem?_eq_getElem h] at h1
  exact (Option.some.inj h1).symm
/-- a number's bits in two parts -/
theorem num_split (v n k : Nat) (h : k ≤ n) : num v n = num (v / 2 ^ (n - k)) k ++ num v (n - k) := by
  apply List.ext_getElem?
  intro i
  by_cases h1 : i < k
  · rw [num_get _ _ _ (by omega), List.getElem?_append_left (by rw [num_len]; exact h1), num_get _ _ _ h1]
    congr 1
    rw [Nat.testBit_div_two_pow]
    congr 1; omega
  · by_cases h2 : i < n
    · rw [num_get _ _ _ h2, List.getElem?_append_right (by rw [num_len]; omega), num_len, num_get _ _ _ (by omega)]
      congr 2; omega
    · rw [List.getElem?_eq_none (by rw [num_len]; omega), List.getElem?_eq_none (by rw [List.length_append, num_len, num_len]; omega)]
theorem num_mod (v n : Nat) : num (v % 2 ^ n) n = num v n := by
  apply val_inj _ _ (by rw [num_len, num_len])
  rw [val_num, val_num, Nat.mod_mod]

/-! bytes -/
theorem pk_bit (f : Nat → Bool) (j : Nat) (h : j < 8) : bitAt (pk f) j = f j := by
  have hl : ((List.range 8).map f).length = 8 := by simp
  have hlt := val_lt ((List.range 8).map f)
  rw [hl] at hlt
  unfold bitAt pk
  rw [UInt8.toNat_ofNat', Nat.mod_eq_of_lt hlt]
  have := val_bit ((List.range 8).map f) j (by rw [hl]; exact h)
  rw [show 7 - j = ((List.range 8).map f).length - 1 - j by rw [hl], this]
  simp
theorem byte_ext {a b : UInt8} (h : ∀ j, j < 8 → bitAt a j = bitAt b j) : a = b := by
  apply UInt8.toNat_inj.1
  apply Nat.eq_of_testBit_eq
  intro i
  by_cases hi : i < 8
  · have := h (7 - i) (by omega)
    unfold bitAt at this
    rwa [show 7 - (7 - i) = i by omega] at this
  · have ha : a.toNat < 2 ^ i := Nat.lt_of_lt_of_le a.toNat_lt (Nat.pow_le_pow_right (by omega) (by omega))
    have hb : b.toNat < 2 ^ i := Nat.lt_of_lt_of_le b.toNat_lt (Nat.pow_le_pow_right (by omega) (by omega))
    rw [Nat.testBit_lt_two_pow ha, Nat.testBit_lt_two_pow hb]
theorem text_ext {a b : List UInt8} (hl : a.length = b.length) (h : ∀ j, j < 8 * a.length → bit a j = bit b j) : a = b := by
  apply List.ext_getElem hl
  intro i h1 h2
  apply byte_ext
  intro j hj
  have := h (8 * i + j) (by omega)
  unfold bit at this
  rw [show (8 * i + j) / 8 = i by omega, show (8 * i + j) % 8 = j by omega] at this
  simpa [List.getD_eq_getElem?_getD, h1, h2] using this
theorem bit_zero (j : Nat) : bitAt 0 j = false := by simp [bitAt]
theorem bit_out (l : List UInt8) (j : Nat) (h : 8 * l.length ≤ j) : bit l j = false := by
  unfold bit
  rw [List.getD_eq_getElem?_getD, List.getElem?_eq_none (by omega)]
  exact bit_zero _
theorem enc_bit (l : List Bool) (j : Nat) : bit (enc l) j = l.getD j false := by
  by_cases h : j / 8 < (l.length + 7) / 8
  · unfold bit enc
    rw [List.getD_eq_getElem?_getD]
    simp only [List.getElem?_map, List.getElem?_range h, Option.map_some, Option.getD_some]
    rw [pk_bit _ _ (by omega), show 8 * (j / 8) + j % 8 = j by omega]
  · rw [bit_out _ _ (by rw [enc_len]; omega), List.getD_eq_getElem?_getD, List.getElem?_eq_none (by omega)]
    rfl
theorem bitsAt_enc (a b c : List Bool) : bitsAt (enc (a ++ b ++ c)) a.length b.length = b := by
  apply List.ext_getElem?
  intro i
  by_cases h : i < b.length
  · simp only [bitsAt, List.getElem?_map, List.getElem?_range h, Option.map_some, enc_bit]
    rw [List.getD_eq_getElem?_getD, List.getElem?_append_left (by simp; omega), List.getElem?_append_right (by omega)]
    rw [show a.length + i - a.length = i by omega, List.getElem?_eq_getElem h]; rfl
  · rw [List.getElem?_eq_none (by rw [bitsAt_len]; omega), List.getElem?_eq_none (by omega)]
theorem bitsAt_enc0 (b : List Bool) : bitsAt (enc b) 0 b.length = b := by
  have := bitsAt_enc [] b []
  simpa using this
theorem bitsAt_split (l : List UInt8) (a m n : Nat) : bitsAt l a (m + n) = bitsAt l a m ++ bitsAt l (a + m) n := by
  unfold bitsAt
  rw [List.range_add, List.map_append, List.map_map]
  congr 1
  apply List.map_congr_left
  intro i _
  simp [Nat.add_assoc]
theorem bitsAt_get (l : List UInt8) (a n i : Nat) (h : i < n) : (bitsAt l a n)[i]? = some (bit l (a + i)) := by simp [bitsAt, h]
/-- some of a byte's bits, as a number -/
theorem val_byte (l : List UInt8) (a k : Nat) (h : a % 8 + k ≤ 8) : val (bitsAt l a k) = (l.getD (a / 8) 0).toNat / 2 ^ (8 - a % 8 - k) % 2 ^ k := by
  have e : bitsAt l a k = num ((l.getD (a / 8) 0).toNat / 2 ^ (8 - a % 8 - k)) k := by
    apply List.ext_getElem?
    intro i
    by_cases hi : i < k
    · rw [bitsAt_get _ _ _ _ hi, num_get _ _ _ hi, Nat.testBit_div_two_pow]
      unfold bit bitAt
      rw [show (a + i) / 8 = a / 8 by omega]
      congr 2; omega
    · rw [List.getElem?_eq_none (by rw [bitsAt_len]; omega), List.getElem?_eq_none (by rw [num_len]; omega)]
  rw [e, val_num]
/-- whatever is right is packed so -/
theorem enc_of_right (s : List UInt8) (n : Nat) (hl : s.length = (n + 7) / 8) (hz : ∀ j, n ≤ j → bit s j = false) : enc (bitsAt s 0 n) = s := by
  apply text_ext (by rw [enc_len, bitsAt_len, hl])
  intro j _
  rw [enc_bit, List.getD_eq_getElem?_getD]
  by_cases h : j < n
  · rw [bitsAt_get _ _ _ _ h]; simp
  · rw [List.getElem?_eq_none (by rw [bitsAt_len]; omega), hz j (by omega)]; rfl
/-- few bits more -/
theorem enc_more (l bs : List Bool) (k : Nat) (hk : bs.length = k) (h1 : 1 ≤ k) (h8 : l.length % 8 + k ≤ 8) (D : List UInt8) (hD : D = if l.length % 8 = 0 then enc l ++ [0] else enc l) :
    enc (l ++ bs) = D.set (l.length / 8) (D.getD (l.length / 8) 0 ||| UInt8.ofNat (val bs * 2 ^ (8 - l.length % 8 - k))) := by
  have hDl : D.length = l.length / 8 + 1 := by
    subst hD; split <;> simp [enc_len] <;> omega
  have hDb : ∀ j, bit D j = l.getD j false := by
    intro j
    subst hD
    split
    · rename_i h0
      unfold bit
      by_cases hj : j / 8 < (enc l).length
      · rw [List.getD_eq_getElem?_getD, List.getElem?_append_left hj, ← List.getD_eq_getElem?_getD]
        exact enc_bit l j
      · have : l.getD j false = false := by
          rw [List.getD_eq_getElem?_getD, List.getElem?_eq_none (by rw [enc_len] at hj; omega)]; rfl
        rw [this, List.getD_eq_getElem?_getD, List.getElem?_append_right (by omega)]
        by_cases e : j / 8 - (enc l).length = 0
        · rw [e]; exact bit_zero _
        · rw [List.getElem?_eq_none (by simp; omega)]; exact bit_zero _
    · exact enc_bit l j
  have hlt := val_lt bs
  rw [hk] at hlt
  have hv : val bs * 2 ^ (8 - l.length % 8 - k) < 256 := by
    have : val bs * 2 ^ (8 - l.length % 8 - k) < 2 ^ k * 2 ^ (8 - l.length % 8 - k) := Nat.mul_lt_mul_of_pos_right hlt (Nat.two_pow_pos _)
    rw [← Nat.pow_add] at this
    have h3 : 2 ^ (k + (8 - l.length % 8 - k)) ≤ 2 ^ 8 := Nat.pow_le_pow_right (by omega) (by omega)
    omega
  have hvb : ∀ p, p < 8 → bitAt (UInt8.ofNat (val bs * 2 ^ (8 - l.length % 8 - k))) p = (decide (l.length % 8 ≤ p) && bs.getD (p - l.length % 8) false) := by
    intro p hp
    unfold bitAt
    rw [UInt8.toNat_ofNat', Nat.mod_eq_of_lt hv, Nat.testBit_mul_two_pow]
    by_cases hq : l.length % 8 ≤ p
    · by_cases hr : p - l.length % 8 < k
      · have := val_bit bs (p - l.length % 8) (by omega)
        rw [show bs.length - 1 - (p - l.length % 8) = 7 - p - (8 - l.length % 8 - k) by omega] at this
        rw [this, List.getD_eq_getElem?_getD, List.getElem?_eq_getElem (by omega)]
        simp [hq, show 8 - l.length % 8 - k ≤ 7 - p by omega]
      · rw [List.getD_eq_getElem?_getD, List.getElem?_eq_none (by omega)]
        simp [show ¬ 8 - l.length % 8 - k ≤ 7 - p by omega]
    · have h5 : (val bs).testBit (7 - p - (8 - l.length % 8 - k)) = false := Nat.testBit_lt_two_pow (Nat.lt_of_lt_of_le hlt (Nat.pow_le_pow_right (by omega) (by omega)))
      simp [hq, h5]
  apply text_ext (by rw [enc_len, List.length_set, hDl, List.length_append, hk]; omega)
  intro j hj
  rw [enc_bit]
  unfold bit
  by_cases e : j / 8 = l.length / 8
  · rw [e, List.getD_eq_getElem?_getD (l := D.set _ _), List.getElem?_set_self (by omega), Option.getD_some]
    have hor : ∀ (x y : UInt8) (p : Nat), bitAt (x ||| y) p = (bitAt x p || bitAt y p) := by
      intro x y p; unfold bitAt; rw [UInt8.toNat_or, Nat.testBit_or]
    rw [hor, hvb _ (by omega)]
    have h6 : bitAt (D.getD (l.length / 8) 0) (j % 8) = l.getD j false := by
      have := hDb j
      unfold bit at this
      rwa [e] at this
    rw [h6]
    by_cases h7 : j < l.length
    · have h8' : ¬ l.length % 8 ≤ j % 8 := by omega
      rw [List.getD_eq_getElem?_getD, List.getElem?_append_left h7, ← List.getD_eq_getElem?_getD]
      simp [h8']
    · have h8' : l.length % 8 ≤ j % 8 := by omega
      rw [List.getD_eq_getElem?_getD, List.getElem?_append_right (by omega), ← List.getD_eq_getElem?_getD]
      have h9 : l.getD j false = false := by rw [List.getD_eq_getElem?_getD, List.getElem?_eq_none (by omega)]; rfl
      rw [h9, show j % 8 - l.length % 8 = j - l.length by omega]
      simp [h8']
  · have h5 : (D.set (l.length / 8) (D.getD (l.length / 8) 0 ||| UInt8.ofNat (val bs * 2 ^ (8 - l.length % 8 - k)))).getD (j / 8) 0 = D.getD (j / 8) 0 := by
      rw [List.getD_eq_getElem?_getD, List.getElem?_set_ne (by omega), ← List.getD_eq_getElem?_getD]
    rw [h5]
    have := hDb j
    unfold bit at this
    rw [this]
    by_cases h7 : j < l.length
    · rw [List.getD_eq_getElem?_getD, List.getElem?_append_left h7, ← List.getD_eq_getElem?_getD]
    · rw [enc_len, List.length_append, hk] at hj
      omega

end Bm
end Go.Proofs.Ytabhnnighhglfaa
