/-
  SUMS BIT BY BIT.
-/
import Derived.Test.YtlfbkkfcbpallaaMath
namespace Go.Proofs.Ytlfbkkfcbpallaa
namespace Crc
def hi (b : Bool) (k : Nat) : BitVec 32 := if b then 1#32 <<< k else 0#32
def stepb (c : BitVec 32) (b : Bool) : BitVec 32 := step (c ^^^ hi b 31)
/-- so many bits are taken up -/
def F (c : BitVec 32) (β : Nat → Bool) : Nat → BitVec 32
  | 0 => c
  | n + 1 => stepb (F c β n) (β n)
def W (β : Nat → Bool) : Nat → BitVec 32
  | 0 => 0#32
  | n + 1 => W β n ^^^ hi (β n) (31 - n)
theorem hi_step (b : Bool) (i : Nat) (h : i ≤ 31) : steps i (hi b (31 - i)) = hi b 31 := by
  cases b with
  | false => simp only [hi]; exact steps_zero i
  | true =>
    simp only [hi, if_true]
    rw [steps_low, ← BitVec.shiftLeft_add, show 31 - i + i = 31 by omega]
    have e : (1#32 <<< (31 - i)).toNat = 2 ^ (31 - i) := by
      rw [BitVec.toNat_shiftLeft, Nat.shiftLeft_eq]
      have : 2 ^ (31 - i) ≤ 2 ^ 31 := Nat.pow_le_pow_right (by omega) (by omega)
      simp only [BitVec.toNat_ofNat]
      rw [show 1 % 2 ^ 32 = 1 from rfl, Nat.one_mul]
      exact Nat.mod_eq_of_lt (by omega)
    rw [e, ← Nat.pow_add, show 31 - i + i = 31 by omega]
    decide
theorem F_word (c : BitVec 32) (β : Nat → Bool) : ∀ i, i ≤ 32 → F c β i = steps i (c ^^^ W β i)
  | 0, _ => by simp [F, W, steps]
  | i + 1, h => by
    rw [steps_succ]
    simp only [F, stepb, W]
    rw [F_word c β i (by omega), ← hi_step (β i) i (by omega), ← steps_xor, BitVec.xor_assoc]
theorem F_xor (c d : BitVec 32) (β δ : Nat → Bool) : ∀ n, F (c ^^^ d) (fun j => (β j) ^^ (δ j)) n = F c β n ^^^ F d δ n
  | 0 => rfl
  | n + 1 => by
    simp only [F, stepb]
    rw [F_xor c d β δ n, ← step_xor]
    have e : hi ((β n) ^^ (δ n)) 31 = hi (β n) 31 ^^^ hi (δ n) 31 := by
      cases β n <;> cases δ n <;> simp [hi]
    rw [e]
    have key : ∀ p q r s : BitVec 32, p ^^^ q ^^^ (r ^^^ s) = p ^^^ r ^^^ (q ^^^ s) := by
      intro p q r s
      rw [BitVec.xor_assoc, BitVec.xor_assoc, xor_left_comm q r s]
    rw [key]
theorem F_add (c : BitVec 32) (β : Nat → Bool) (m : Nat) : ∀ n, F c β (m + n) = F (F c β m) (fun j => β (m + j)) n
  | 0 => rfl
  | n + 1 => by rw [Nat.add_succ]; simp only [F]; rw [F_add c β m n]
theorem F_none (c : BitVec 32) (β : Nat → Bool) : ∀ n, (∀ j, j < n → β j = false) → F c β n = steps n c
  | 0, _ => rfl
  | n + 1, h => by
    simp only [F, stepb]
    rw [F_none c β n (fun j hj => h j (by omega)), h n (by omega), steps_succ]
    simp [hi]
theorem F_congr (c : BitVec 32) {β γ : Nat → Bool} : ∀ n, (∀ j, j < n → β j = γ j) → F c β n = F c γ n
  | 0, _ => rfl
  | n + 1, h => by
    simp only [F]
    rw [F_congr c n (fun j hj => h j (by omega)), h n (by omega)]
theorem W_bit (β : Nat → Bool) (j : Nat) (hj : j < 32) : ∀ n, n ≤ 32 → (W β n).getLsbD (31 - j) = (decide (j < n) && β j)
  | 0, _ => by simp [W]
  | n + 1, h => by
    have hb : (hi (β n) (31 - n)).getLsbD (31 - j) = (decide (j = n) && β n) := by
      cases hβ : β n with
      | false => simp [hi]
      | true =>
        simp only [hi, if_true, BitVec.getLsbD_shiftLeft, Bool.and_true]
        by_cases e : j = n
        · subst e; simp; omega
        · by_cases h2 : 31 - j < 31 - n
          · simp [e, h2]
          · have : 31 - j - (31 - n) ≠ 0 := by omega
            simp [e, BitVec.getLsbD_one, this]
    simp only [W, BitVec.getLsbD_xor]
    rw [W_bit β j hj n (by omega), hb]
    by_cases e : j = n
    · subst e; simp
    · by_cases h2 : j < n
      · simp [e, h2, show j < n + 1 by omega]
      · simp [e, h2, show ¬ j < n + 1 by omega]
theorem W_zero (β : Nat → Bool) (n : Nat) (hn : n ≤ 32) : W β n = 0#32 ↔ ∀ j, j < n → β j = false := by
  constructor
  · intro h j hj
    have := W_bit β j (by omega) n hn
    rw [h] at this
    simpa [hj] using this
  · intro h
    apply BitVec.eq_of_getLsbD_eq
    intro i hi
    have := W_bit β (31 - i) (by omega) n hn
    rw [show 31 - (31 - i) = i by omega] at this
    rw [this]
    by_cases hj : 31 - i < n
    · simp [h _ hj]
    · simp [hj]
/-- the bit of a byte, the highest one first -/
def bitAt (b : UInt8) (j : Nat) : Bool := b.toBitVec.getLsbD (7 - j)
theorem take_bits (n : BitVec 32) (b : UInt8) : take n b.toBitVec = F n (bitAt b) 8 := by
  rw [F_word n _ 8 (by omega)]
  show steps 8 (n ^^^ sh b 24) = _
  have e : sh b 24 = W (bitAt b) 8 := by
    apply BitVec.eq_of_getLsbD_eq
    intro i hi
    have := W_bit (bitAt b) (31 - i) (by omega) 8 (by omega)
    rw [show 31 - (31 - i) = i by omega] at this
    rw [this]
    simp only [sh, BitVec.getLsbD_shiftLeft, BitVec.getLsbD_setWidth, bitAt]
    by_cases h : i < 24
    · have : ¬ 31 - i < 8 := by omega
      simp [h, this]
    · have h1 : 31 - i < 8 := by omega
      have h2 : i - 24 < 32 := by omega
      simp [h, h1, h2, hi, show 7 - (31 - i) = i - 24 by omega]
  rw [e]
/-- the bit of a text -/
def bit (l : List UInt8) (j : Nat) : Bool := bitAt (l.getD (j / 8) 0) (j % 8)
theorem takes_bits (l : List UInt8) : ∀ c, takes c l = F c (bit l) (8 * l.length) := by
  induction l with
  | nil => intro c; rfl
  | cons b l ih =>
    intro c
    have h1 : takes c (b :: l) = takes (take c b.toBitVec) l := rfl
    rw [h1, ih, take_bits, List.length_cons, show 8 * (l.length + 1) = 8 + 8 * l.length by omega, F_add]
    rw [F_congr c (β := bit (b :: l)) (γ := bitAt b) 8 (fun j hj => by simp [bit, show j / 8 = 0 by omega, show j % 8 = j by omega])]
    apply F_congr
    intro j _
    simp [bit, show (8 + j) / 8 = j / 8 + 1 by omega, show (8 + j) % 8 = j % 8 by omega]
/-- A BURST: texts that are as long, and unlike in bits k to k + m alone, m at most 32. -/
theorem burst (c : BitVec 32) (l l' : List UInt8) (hl : l'.length = l.length) (k m : Nat) (hm : m ≤ 32) (hk : k + m ≤ 8 * l.length) (δ : Nat → Bool)
    (h : ∀ j, j < 8 * l.length → bit l' j = ((bit l j) ^^ (decide (k ≤ j) && decide (j < k + m) && δ (j - k)))) :
    takes c l' = takes c l ↔ ∀ i, i < m → δ i = false := by
  rw [takes_bits, takes_bits, hl]
  have e1 : F c (bit l') (8 * l.length) = F (c ^^^ 0#32) (fun j => (bit l j) ^^ (decide (k ≤ j) && decide (j < k + m) && δ (j - k))) (8 * l.length) := by
    rw [BitVec.xor_zero]; exact F_congr c _ h
  rw [e1, F_xor]
  generalize hD : F 0#32 (fun j => (decide (k ≤ j) && decide (j < k + m) && δ (j - k))) (8 * l.length) = D
  have hD2 : D = steps (8 * l.length - (k + m)) (steps m (W δ m)) := by
    rw [← hD]
    obtain ⟨r, hr⟩ : ∃ r, 8 * l.length = k + m + r := ⟨8 * l.length - (k + m), by omega⟩
    rw [hr, F_add, F_add, F_none 0#32 _ k (fun j hj => by simp [show ¬ k ≤ j by omega]), steps_zero, show k + m + r - (k + m) = r by omega]
    rw [F_none _ _ r (fun j _ => by simp [show ¬ k + m + j < k + m by omega])]
    rw [F_congr 0#32 (γ := δ) m (fun j hj => by simp [show k + j < k + m by omega]), F_word _ _ m hm, BitVec.zero_xor]
  have hz : D = 0#32 ↔ ∀ i, i < m → δ i = false := by
    rw [← W_zero δ m hm, hD2]
    exact ⟨fun h => steps_eq_zero _ (steps_eq_zero _ h), fun h => by rw [h, steps_zero, steps_zero]⟩
  rw [← hz]
  constructor
  · intro h
    have := congrArg (F c (bit l) (8 * l.length) ^^^ ·) h
    simpa only [xor_self_left, BitVec.xor_self] using this
  · intro h; rw [h, BitVec.xor_zero]
end Crc
end Go.Proofs.Ytlfbkkfcbpallaa
