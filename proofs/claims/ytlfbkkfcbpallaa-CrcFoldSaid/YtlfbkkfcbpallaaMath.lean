/-
  PLAIN MATHEMATICS OF SUMS (CRC-32, the highest bit first): a step, eight steps for a byte, how steps bear exclusive or, that none is lost.
-/
import Derived.WalkKit
namespace Go.Proofs.Ytlfbkkfcbpallaa
namespace Crc

def poly : BitVec 32 := 79764919#32
def step (c : BitVec 32) : BitVec 32 := if c.msb then (c <<< 1) ^^^ poly else c <<< 1
def steps : Nat → BitVec 32 → BitVec 32
  | 0, c => c
  | n + 1, c => steps n (step c)

theorem xor_left_comm (a b c : BitVec 32) : a ^^^ (b ^^^ c) = b ^^^ (a ^^^ c) := by
  rw [← BitVec.xor_assoc, BitVec.xor_comm a b, BitVec.xor_assoc]
theorem xor_self_left (a b : BitVec 32) : a ^^^ (a ^^^ b) = b := by
  rw [← BitVec.xor_assoc, BitVec.xor_self, BitVec.zero_xor]

theorem step_xor (a b : BitVec 32) : step (a ^^^ b) = step a ^^^ step b := by
  unfold step
  rw [BitVec.msb_xor, BitVec.shiftLeft_xor_distrib]
  cases a.msb <;> cases b.msb <;> simp [BitVec.xor_assoc, BitVec.xor_comm, xor_left_comm, xor_self_left]

theorem steps_xor (n : Nat) : ∀ a b : BitVec 32, steps n (a ^^^ b) = steps n a ^^^ steps n b := by
  induction n with
  | zero => intro a b; rfl
  | succ n ih => intro a b; simp only [steps]; rw [step_xor, ih]

theorem steps_add (m n : Nat) : ∀ a : BitVec 32, steps (m + n) a = steps n (steps m a) := by
  induction m with
  | zero => intro a; simp [steps]
  | succ m ih => intro a; rw [Nat.succ_add]; simp only [steps]; exact ih _

theorem steps_succ (n : Nat) (a : BitVec 32) : steps (n + 1) a = step (steps n a) := by
  rw [steps_add]; rfl

theorem xor_eq_zero {a b : BitVec 32} (h : a ^^^ b = 0#32) : a = b := by
  have := congrArg (· ^^^ b) h
  simpa [BitVec.xor_assoc] using this

theorem step_zero : step 0#32 = 0#32 := by decide
theorem steps_zero (n : Nat) : steps n 0#32 = 0#32 := by
  induction n with
  | zero => rfl
  | succ n ih => simp only [steps, step_zero, ih]

theorem step_eq_zero {a : BitVec 32} (h : step a = 0#32) : a = 0#32 := by
  unfold step at h
  by_cases hm : a.msb = true
  · rw [if_pos hm] at h
    have h2 := congrArg (fun x : BitVec 32 => x.getLsbD 0) h
    simp [poly] at h2
  · rw [if_neg hm] at h
    have hb : a.getLsbD 31 = false := by
      have : a.msb = a.getLsbD 31 := by simp [BitVec.msb_eq_getLsbD_last]
      rw [← this]; simpa using hm
    apply BitVec.eq_of_getLsbD_eq
    intro i hi
    by_cases h31 : i = 31
    · subst h31; simpa using hb
    · have h3 := congrArg (fun x : BitVec 32 => x.getLsbD (i + 1)) h
      simp only [BitVec.getLsbD_shiftLeft] at h3
      simpa [show i + 1 < 32 by omega] using h3

theorem steps_eq_zero (n : Nat) : ∀ {a : BitVec 32}, steps n a = 0#32 → a = 0#32 := by
  induction n with
  | zero => intro a h; exact h
  | succ n ih => intro a h; exact step_eq_zero (ih h)

theorem steps_inj (n : Nat) {a b : BitVec 32} (h : steps n a = steps n b) : a = b := by
  have h2 : steps n (a ^^^ b) = 0#32 := by rw [steps_xor, h, BitVec.xor_self]
  exact xor_eq_zero (steps_eq_zero n h2)

/-- what taking up a byte makes of 0 -/
def eff (b : BitVec 8) : BitVec 32 := steps 8 (b.setWidth 32 <<< 24)
/-- a byte is taken up -/
def take (n : BitVec 32) (b : BitVec 8) : BitVec 32 := steps 8 (n ^^^ (b.setWidth 32 <<< 24))
def takes (n : BitVec 32) (l : List UInt8) : BitVec 32 := l.foldl (fun n b => take n b.toBitVec) n

theorem step_low {a : BitVec 32} (h : a.msb = false) : step a = a <<< 1 := by simp [step, h]

theorem steps_low (n : Nat) : ∀ {a : BitVec 32}, a.toNat * 2 ^ n < 2 ^ 32 → steps n a = a <<< n := by
  induction n with
  | zero => intro a _; simp [steps]
  | succ n ih =>
    intro a h
    have h1 : a.toNat * 2 < 2 ^ 32 := by
      have : a.toNat * 2 ≤ a.toNat * 2 ^ (n + 1) := Nat.mul_le_mul_left _ (by have := Nat.one_le_two_pow (n := n); omega)
      omega
    have hm : a.msb = false := by rw [BitVec.msb_eq_false_iff_two_mul_lt]; omega
    have e : (a <<< 1).toNat = a.toNat * 2 := by
      rw [BitVec.toNat_shiftLeft, Nat.shiftLeft_eq]; omega
    simp only [steps]
    rw [step_low hm, ih (by rw [e, Nat.mul_assoc, ← Nat.pow_succ']; exact h), ← BitVec.shiftLeft_add, Nat.add_comm]

/-- the table's way of taking up a byte is the plain one -/
theorem take_table (n : BitVec 32) (b : BitVec 8) : (n <<< 8) ^^^ eff ((n >>> 24).setWidth 8 ^^^ b) = take n b := by
  have hlow : steps 8 (n &&& 0xFFFFFF#32) = (n &&& 0xFFFFFF#32) <<< 8 := by
    apply steps_low
    have : (n &&& 0xFFFFFF#32).toNat ≤ 0xFFFFFF := by rw [BitVec.toNat_and]; exact Nat.and_le_right
    omega
  have hl2 : (n &&& 0xFFFFFF#32) <<< 8 = n <<< 8 := by
    apply BitVec.eq_of_getLsbD_eq
    intro i hi
    simp only [BitVec.getLsbD_shiftLeft, BitVec.getLsbD_and]
    by_cases h8 : i < 8
    · simp [h8]
    · have : (0xFFFFFF#32).getLsbD (i - 8) = true := by
        have h24 : i - 8 < 24 := by omega
        have : ∀ j, j < 24 → (0xFFFFFF#32).getLsbD j = true := by decide
        exact this _ h24
      simp [this]
  have hx : ((n >>> 24).setWidth 8 ^^^ b).setWidth 32 <<< 24 = ((n >>> 24) <<< 24) ^^^ (b.setWidth 32 <<< 24) := by
    apply BitVec.eq_of_getLsbD_eq
    intro i hi
    simp only [BitVec.getLsbD_shiftLeft, BitVec.getLsbD_xor, BitVec.getLsbD_setWidth, BitVec.getLsbD_ushiftRight]
    by_cases h : i < 24
    · simp [h]
    · have h1 : i - 24 < 8 := by omega
      have h2 : i - 24 < 32 := by omega
      simp [h, h1, h2, hi]
  have hs : n = (n &&& 0xFFFFFF#32) ^^^ ((n >>> 24) <<< 24) := by
    apply BitVec.eq_of_getLsbD_eq
    intro i hi
    simp only [BitVec.getLsbD_shiftLeft, BitVec.getLsbD_xor, BitVec.getLsbD_and, BitVec.getLsbD_ushiftRight]
    by_cases h : i < 24
    · have : ∀ j, j < 24 → (0xFFFFFF#32).getLsbD j = true := by decide
      simp [h, this i h]
    · have h5 : ∀ j, j < 32 → ¬ j < 24 → (0xFFFFFF#32).getLsbD j = false := by decide
      rw [h5 i hi h]
      simp [h, hi, show 24 + (i - 24) = i by omega]
  unfold eff take
  rw [hx, steps_xor]
  conv => rhs; rw [hs, BitVec.xor_assoc, steps_xor, steps_xor, hlow, hl2]

def sh (b : UInt8) (k : Nat) : BitVec 32 := b.toBitVec.setWidth 32 <<< k
theorem sh_toNat (b : UInt8) (k : Nat) (hk : k ≤ 24) : (sh b k).toNat = b.toNat * 2 ^ k := by
  unfold sh
  rw [BitVec.toNat_shiftLeft, Nat.shiftLeft_eq, BitVec.toNat_setWidth]
  have h := b.toNat_lt
  have e : b.toBitVec.toNat = b.toNat := rfl
  rw [e, Nat.mod_eq_of_lt (by omega : b.toNat < 2 ^ 32)]
  apply Nat.mod_eq_of_lt
  calc b.toNat * 2 ^ k ≤ 255 * 2 ^ 24 := Nat.mul_le_mul (by omega) (Nat.pow_le_pow_right (by omega) hk)
    _ < 2 ^ 32 := by decide
theorem sh_step (b : UInt8) (k n : Nat) (h : k + n ≤ 24) : steps n (sh b k) = sh b (k + n) := by
  rw [steps_low]
  · unfold sh; rw [← BitVec.shiftLeft_add]
  · rw [sh_toNat b k (by omega), Nat.mul_assoc, ← Nat.pow_add]
    have h2 := b.toNat_lt
    calc b.toNat * 2 ^ (k + n) ≤ 255 * 2 ^ 24 := Nat.mul_le_mul (by omega) (Nat.pow_le_pow_right (by omega) h)
      _ < 2 ^ 32 := by decide
def word (a b c d : UInt8) : BitVec 32 := sh a 24 ^^^ (sh b 16 ^^^ (sh c 8 ^^^ sh d 0))
theorem takes4 (n : BitVec 32) (a b c d : UInt8) : takes n [a, b, c, d] = steps 32 (n ^^^ word a b c d) := by
  have h1 : ∀ (m : BitVec 32) (x : UInt8), take m x.toBitVec = steps 8 (m ^^^ sh x 24) := fun _ _ => rfl
  simp only [takes, List.foldl_cons, List.foldl_nil, h1]
  have eb : sh b 24 = steps 8 (sh b 16) := (sh_step b 16 8 (by omega)).symm
  have ec : sh c 24 = steps 16 (sh c 8) := (sh_step c 8 16 (by omega)).symm
  have ed : sh d 24 = steps 24 (sh d 0) := (sh_step d 0 24 (by omega)).symm
  rw [eb, ← steps_xor, ← steps_add, ec, ← steps_xor, ← steps_add, ed, ← steps_xor, ← steps_add]
  unfold word
  simp only [BitVec.xor_assoc]
theorem word_bits (a b c d : UInt8) : word a b c d = (a.toBitVec ++ b.toBitVec ++ c.toBitVec ++ d.toBitVec : BitVec 32) := by
  apply BitVec.eq_of_getLsbD_eq
  intro i hi
  unfold word sh
  simp only [BitVec.getLsbD_xor, BitVec.getLsbD_shiftLeft, BitVec.getLsbD_setWidth, BitVec.getLsbD_append]
  by_cases h8 : i < 8
  · have : i < 24 := by omega
    have : i < 16 := by omega
    simp [*]
  · by_cases h16 : i < 16
    · have h1 : i < 24 := by omega
      have h2 : i - 8 < 8 := by omega
      have h3 : d.toBitVec.getLsbD i = false := BitVec.getLsbD_of_ge _ _ (by omega)
      have h4 : i - 8 < 32 := by omega
      simp [h8, h16, h1, h2, h3, h4, hi]
    · by_cases h24 : i < 24
      · have h2 : ¬ i - 8 < 8 := by omega
        have h2' : i - 8 - 8 < 8 := by omega
        have h3 : d.toBitVec.getLsbD i = false := BitVec.getLsbD_of_ge _ _ (by omega)
        have h5 : c.toBitVec.getLsbD (i - 8) = false := BitVec.getLsbD_of_ge _ _ (by omega)
        have h4 : i - 16 < 32 := by omega
        simp [h8, h16, h24, h2, h2', h3, h4, h5, hi, show i - 8 - 8 = i - 16 by omega, show ¬ 8 ≤ i - 16 by omega]
      · have h2 : ¬ i - 8 < 8 := by omega
        have h2' : ¬ i - 8 - 8 < 8 := by omega
        have h3 : d.toBitVec.getLsbD i = false := BitVec.getLsbD_of_ge _ _ (by omega)
        have h5 : c.toBitVec.getLsbD (i - 8) = false := BitVec.getLsbD_of_ge _ _ (by omega)
        have h6 : b.toBitVec.getLsbD (i - 16) = false := BitVec.getLsbD_of_ge _ _ (by omega)
        have h4 : i - 24 < 32 := by omega
        simp [h8, h16, h24, h2, h2', h3, h4, h5, h6, hi, show i - 8 - 8 - 8 = i - 24 by omega]
theorem word_inj {a b c d a' b' c' d' : UInt8} (h : word a b c d = word a' b' c' d') : a = a' ∧ b = b' ∧ c = c' ∧ d = d' := by
  rw [word_bits, word_bits] at h
  have key : ∀ i, ((if i < 8 then d.toBitVec.getLsbD i else if i - 8 < 8 then c.toBitVec.getLsbD (i - 8) else if i - 8 - 8 < 8 then b.toBitVec.getLsbD (i - 8 - 8) else a.toBitVec.getLsbD (i - 8 - 8 - 8)) =
      (if i < 8 then d'.toBitVec.getLsbD i else if i - 8 < 8 then c'.toBitVec.getLsbD (i - 8) else if i - 8 - 8 < 8 then b'.toBitVec.getLsbD (i - 8 - 8) else a'.toBitVec.getLsbD (i - 8 - 8 - 8))) := by
    intro i
    have := congrArg (fun x : BitVec 32 => x.getLsbD i) h
    simp only [BitVec.getLsbD_append] at this
    simpa using this
  refine ⟨?_, ?_, ?_, ?_⟩
  · apply UInt8.toBitVec_inj.1
    apply BitVec.eq_of_getLsbD_eq
    intro i hi
    have := key (i + 24)
    simpa [show ¬ i + 24 < 8 by omega, show i + 24 - 8 = i + 16 by omega, show ¬ i + 16 < 8 by omega, show i + 16 - 8 = i + 8 by omega, show ¬ i + 8 < 8 by omega] using this
  · apply UInt8.toBitVec_inj.1
    apply BitVec.eq_of_getLsbD_eq
    intro i hi
    have := key (i + 16)
    simpa [show ¬ i + 16 < 8 by omega, show i + 16 - 8 = i + 8 by omega, hi, show ¬ i + 8 < 8 by omega] using this
  · apply UInt8.toBitVec_inj.1
    apply BitVec.eq_of_getLsbD_eq
    intro i hi
    have := key (i + 8)
    simpa [hi, show ¬ i + 8 < 8 by omega] using this
  · apply UInt8.toBitVec_inj.1
    apply BitVec.eq_of_getLsbD_eq
    intro i hi
    have := key i
    simpa [hi] using this

end Crc
end Go.Proofs.Ytlfbkkfcbpallaa
