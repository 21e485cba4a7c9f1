/-
  The framework of these walks, several texts in one.
-/
import Derived.WalkKit
import Derived.BigQuiet
import Derived.OrdersHeld
import Derived.Deep.RegionHeld3
import Derived.Test.YtdcenocljnlipaaMga
import Derived.Test.YtdcenocljnlipaaRows
import Derived.Defers
import Derived.Recover
import Derived.Test.YtdcenocljnlipaaMgb
namespace Go.Proofs.Ytdcenocljnlipaa
namespace Bm

def bitAt (b : UInt8) (j : Nat) : Bool := b.toNat.testBit (7 - j)
/-- the bit of a text -/
def bit (l : List UInt8) (j : Nat) : Bool := bitAt (l.getD (j / 8) 0) (j % 8)
def bitsAt (l : List UInt8) (a n : Nat) : List Bool := (List.range n).map fun i => bit l (a + i)
def val (l : List Bool) : Nat := l.foldl (fun v b => 2 * v + b.toNat) 0
def num (v n : Nat) : List Bool := (List.range n).map fun i => v.testBit (n - 1 - i)
def pk (f : Nat → Bool) : UInt8 := UInt8.ofNat (val ((List.range 8).map f))
def enc (l : List Bool) : List UInt8 := (List.range ((l.length + 7) / 8)).map fun i => pk fun j => l.getD (8 * i + j) false

theorem bitsAt_len (l : List UInt8) (a n : Nat) : (bitsAt l a n).length = n := by simp [bitsAt]
theorem num_len (v n : Nat) : (num v n).length = n := by simp [num]
theorem enc_len (l : List Bool) : (enc l).length = (l.length + 7) / 8 := by simp [enc]

theorem val_from (l : List Bool) : ∀ v, l.foldl (fun v b => 2 * v + b.toNat) v = v * 2 ^ l.length + val l := by
  induction l with
  | nil => intro v; simp [val]
  | cons b l ih =>
    intro v
    simp only [val, List.foldl_cons, List.length_cons]
    rw [ih, ih (2 * 0 + b.toNat), Nat.pow_succ]
    have e : (2 * v + b.toNat) * 2 ^ l.length = v * (2 ^ l.length * 2) + b.toNat * 2 ^ l.length := by
      rw [Nat.add_mul, Nat.mul_comm 2 v, Nat.mul_assoc, Nat.mul_comm 2 (2 ^ l.length)]
    rw [e]; simp; omega
theorem val_append (a b : List Bool) : val (a ++ b) = val a * 2 ^ b.length + val b := by
  unfold val; rw [List.foldl_append]; exact val_from b _
theorem val_lt (l : List Bool) : val l < 2 ^ l.length := by
  induction l with
  | nil => simp [val]
  | cons b l ih =>
    have h : val (b :: l) = b.toNat * 2 ^ l.length + val l := by
      have := val_append [b] l
      simpa [val] using this
    rw [h, List.length_cons, Nat.pow_succ]
    cases b <;> simp <;> omega
theorem num_succ (v n : Nat) : num v (n + 1) = v.testBit n :: num v n := by
  simp only [num, List.range_succ_eq_map, List.map_cons, List.map_map]
  congr 1
  apply List.map_congr_left
  intro i hi
  simp only [Function.comp]
  congr 1
  omega
theorem val_num (v : Nat) : ∀ n, val (num v n) = v % 2 ^ n
  | 0 => by simp [num, val, Nat.mod_one]
  | n + 1 => by
    rw [num_succ]
    have h : val (v.testBit n :: num v n) = (v.testBit n).toNat * 2 ^ n + val (num v n) := by
      have := val_append [v.testBit n] (num v n)
      simpa [val, num_len] using this
    rw [h, val_num v n, Nat.testBit_eq_decide_div_mod_eq, Nat.mod_pow_succ]
    have h2 : v / 2 ^ n % 2 < 2 := Nat.mod_lt _ (by omega)
    by_cases h3 : v / 2 ^ n % 2 = 1
    · rw [decide_eq_true h3, h3]; simp; omega
    · have h4 : v / 2 ^ n % 2 = 0 := by omega
      rw [decide_eq_false h3, h4]; simp
theorem val_inj : ∀ (a b : List Bool), a.length = b.length → val a = val b → a = b
  | [], [], _, _ => rfl
  | [], _ :: _, h, _ => by simp at h
  | _ :: _, [], h, _ => by simp at h
  | x :: a, y :: b, h, hv => by
    have hl : a.length = b.length := by simpa using h
    have h1 : val (x :: a) = x.toNat * 2 ^ a.length + val a := by have := val_append [x] a; simpa [val] using this
    have h2 : val (y :: b) = y.toNat * 2 ^ b.length + val b := by have := val_append [y] b; simpa [val] using this
    rw [h1, h2, hl] at hv
    have la := val_lt a
    have lb := val_lt b
    rw [hl] at la
    have hxy : x = y := by
      cases x <;> cases y <;> simp at hv ⊢ <;> omega
    subst hxy
    rw [val_inj a b hl (by omega)]
theorem num_val (l : List Bool) : num (val l) l.length = l :=
  val_inj _ _ (num_len _ _) (by rw [val_num, Nat.mod_eq_of_lt (val_lt l)])
theorem num_get (v n i : Nat) (h : i < n) : (num v n)[i]? = some (v.testBit (n - 1 - i)) := by
  simp [num, h]
theorem val_bit (l : List Bool) (i : Nat) (h : i < l.length) : (val l).testBit (l.length - 1 - i) = l[i] := by
  have h1 := num_get (val l) l.length i h
  rw [num_val, List.getElem?_eq_getElem h] at h1
  exact (Option.some.inj h1).symm
/-- a number's bits in two parts -/
theorem num_split (v n k : Nat) (h : k ≤ n) : num v n = num (v / 2 ^ (n - k)) k ++ num v (n - k) := by
  apply List.ext_getElem?
  intro i
  by_cases h1 : i < k
  · rw [num_get _ _ _ (by omega), List.getElem?_append_left (by rw [num_len]; exact h1), num_get _ _ _ h1]
    congr 1
    rw [Nat.testBit_div_two_pow]
    congr 1; omega
  · by_cases h2 : i < n
    · rw [num_get _ _ _ h2, List.getElem?_append_right (by rw [num_len]; omega), num_len, num_get _ _ _ (by omega)]
      congr 2; omega
    · rw [List.getElem?_eq_none (by rw [num_len]; omega), List.getElem?_eq_none (by rw [List.length_append, num_len, num_len]; omega)]
theorem num_mod (v n : Nat) : num (v % 2 ^ n) n = num v n := by
  apply val_inj _ _ (by rw [num_len, num_len])
  rw [val_num, val_num, Nat.mod_mod]

/-! bytes -/
theorem pk_bit (f : Nat → Bool) (j : Nat) (h : j < 8) : bitAt (pk f) j = f j := by
  have hl : ((List.range 8).map f).length = 8 := by simp
  have hlt := val_lt ((List.range 8).map f)
  rw [hl] at hlt
  unfold bitAt pk
  rw [UInt8.toNat_ofNat', Nat.mod_eq_of_lt hlt]
  have := val_bit ((List.range 8).map f) j (by rw [hl]; exact h)
  rw [show 7 - j = ((List.range 8).map f).length - 1 - j by rw [hl], this]
  simp
theorem byte_ext {a b : UInt8} (h : ∀ j, j < 8 → bitAt a j = bitAt b j) : a = b := by
  apply UInt8.toNat_inj.1
  apply Nat.eq_of_testBit_eq
  intro i
  by_cases hi : i < 8
  · have := h (7 - i) (by omega)
    unfold bitAt at this
    rwa [show 7 - (7 - i) = i by omega] at this
  · have ha : a.toNat < 2 ^ i := Nat.lt_of_lt_of_le a.toNat_lt (Nat.pow_le_pow_right (by omega) (by omega))
    have hb : b.toNat < 2 ^ i := Nat.lt_of_lt_of_le b.toNat_lt (Nat.pow_le_pow_right (by omega) (by omega))
    rw [Nat.testBit_lt_two_pow ha, Nat.testBit_lt_two_pow hb]
theorem text_ext {a b : List UInt8} (hl : a.length = b.length) (h : ∀ j, j < 8 * a.length → bit a j = bit b j) : a = b := by
  apply List.ext_getElem hl
  intro i h1 h2
  apply byte_ext
  intro j hj
  have := h (8 * i + j) (by omega)
  unfold bit at this
  rw [show (8 * i + j) / 8 = i by omega, show (8 * i + j) % 8 = j by omega] at this
  simpa [List.getD_eq_getElem?_getD, h1, h2] using this
theorem bit_zero (j : Nat) : bitAt 0 j = false := by simp [bitAt]
theorem bit_out (l : List UInt8) (j : Nat) (h : 8 * l.length ≤ j) : bit l j = false := by
  unfold bit
  rw [List.getD_eq_getElem?_getD, List.getElem?_eq_none (by omega)]
  exact bit_zero _
theorem enc_bit (l : List Bool) (j : Nat) : bit (enc l) j = l.getD j false := by
  by_cases h : j / 8 < (l.length + 7) / 8
  · unfold bit enc
    rw [List.getD_eq_getElem?_getD]
    simp only [List.getElem?_map, List.getElem?_range h, Option.map_some, Option.getD_some]
    rw [pk_bit _ _ (by omega), show 8 * (j / 8) + j % 8 = j by omega]
  · rw [bit_out _ _ (by rw [enc_len]; omega), List.getD_eq_getElem?_getD, List.getElem?_eq_none (by omega)]
    rfl
theorem bitsAt_enc (a b c : List Bool) : bitsAt (enc (a ++ b ++ c)) a.length b.length = b := by
  apply List.ext_getElem?
  intro i
  by_cases h : i < b.length
  · simp only [bitsAt, List.getElem?_map, List.getElem?_range h, Option.map_some, enc_bit]
    rw [List.getD_eq_getElem?_getD, List.getElem?_append_left (by simp; omega), List.getElem?_append_right (by omega)]
    rw [show a.length + i - a.length = i by omega, List.getElem?_eq_getElem h]; rfl
  · rw [List.getElem?_eq_none (by rw [bitsAt_len]; omega), List.getElem?_eq_none (by omega)]
theorem bitsAt_enc0 (b : List Bool) : bitsAt (enc b) 0 b.length = b := by
  have := bitsAt_enc [] b []
  simpa using this
theorem bitsAt_split (l : List UInt8) (a m n : Nat) : bitsAt l a (m + n) = bitsAt l a m ++ bitsAt l (a + m) n := by
  unfold bitsAt
  rw [List.range_add, List.map_append, List.map_map]
  congr 1
  apply List.map_congr_left
  intro i _
  simp [Nat.add_assoc]
theorem bitsAt_get (l : List UInt8) (a n i : Nat) (h : i < n) : (bitsAt l a n)[i]? = some (bit l (a + i)) := by simp [bitsAt, h]
/-- some of a byte's bits, as a number -/
theorem val_byte (l : List UInt8) (a k : Nat) (h : a % 8 + k ≤ 8) : val (bitsAt l a k) = (l.getD (a / 8) 0).toNat / 2 ^ (8 - a % 8 - k) % 2 ^ k := by
  have e : bitsAt l a k = num ((l.getD (a / 8) 0).toNat / 2 ^ (8 - a % 8 - k)) k := by
    apply List.ext_getElem?
    intro i
    by_cases hi : i < k
    · rw [bitsAt_get _ _ _ _ hi, num_get _ _ _ hi, Nat.testBit_div_two_pow]
      unfold bit bitAt
      rw [show (a + i) / 8 = a / 8 by omega]
      congr 2; omega
    · rw [List.getElem?_eq_none (by rw [bitsAt_len]; omega), List.getElem?_eq_none (by rw [num_len]; omega)]
  rw [e, val_num]
/-- whatever is right is packed so -/
theorem enc_of_right (s : List UInt8) (n : Nat) (hl : s.length = (n + 7) / 8) (hz : ∀ j, n ≤ j → bit s j = false) : enc (bitsAt s 0 n) = s := by
  apply text_ext (by rw [enc_len, bitsAt_len, hl])
  intro j _
  rw [enc_bit, List.getD_eq_getElem?_getD]
  by_cases h : j < n
  · rw [bitsAt_get _ _ _ _ h]; simp
  · rw [List.getElem?_eq_none (by rw [bitsAt_len]; omega), hz j (by omega)]; rfl
/-- few bits more -/
theorem enc_more (l bs : List Bool) (k : Nat) (hk : bs.length = k) (h1 : 1 ≤ k) (h8 : l.length % 8 + k ≤ 8) (D : List UInt8) (hD : D = if l.length % 8 = 0 then enc l ++ [0] else enc l) :
    enc (l ++ bs) = D.set (l.length / 8) (D.getD (l.length / 8) 0 ||| UInt8.ofNat (val bs * 2 ^ (8 - l.length % 8 - k))) := by
  have hDl : D.length = l.length / 8 + 1 := by
    subst hD; split <;> simp [enc_len] <;> omega
  have hDb : ∀ j, bit D j = l.getD j false := by
    intro j
    subst hD
    split
    · rename_i h0
      unfold bit
      by_cases hj : j / 8 < (enc l).length
      · rw [List.getD_eq_getElem?_getD, List.getElem?_append_left hj, ← List.getD_eq_getElem?_getD]
        exact enc_bit l j
      · have : l.getD j false = false := by
          rw [List.getD_eq_getElem?_getD, List.getElem?_eq_none (by rw [enc_len] at hj; omega)]; rfl
        rw [this, List.getD_eq_getElem?_getD, List.getElem?_append_right (by omega)]
        by_cases e : j / 8 - (enc l).length = 0
        · rw [e]; exact bit_zero _
        · rw [List.getElem?_eq_none (by simp; omega)]; exact bit_zero _
    · exact enc_bit l j
  have hlt := val_lt bs
  rw [hk] at hlt
  have hv : val bs * 2 ^ (8 - l.length % 8 - k) < 256 := by
    have : val bs * 2 ^ (8 - l.length % 8 - k) < 2 ^ k * 2 ^ (8 - l.length % 8 - k) := Nat.mul_lt_mul_of_pos_right hlt (Nat.two_pow_pos _)
    rw [← Nat.pow_add] at this
    have h3 : 2 ^ (k + (8 - l.length % 8 - k)) ≤ 2 ^ 8 := Nat.pow_le_pow_right (by omega) (by omega)
    omega
  have hvb : ∀ p, p < 8 → bitAt (UInt8.ofNat (val bs * 2 ^ (8 - l.length % 8 - k))) p = (decide (l.length % 8 ≤ p) && bs.getD (p - l.length % 8) false) := by
    intro p hp
    unfold bitAt
    rw [UInt8.toNat_ofNat', Nat.mod_eq_of_lt hv, Nat.testBit_mul_two_pow]
    by_cases hq : l.length % 8 ≤ p
    · by_cases hr : p - l.length % 8 < k
      · have := val_bit bs (p - l.length % 8) (by omega)
        rw [show bs.length - 1 - (p - l.length % 8) = 7 - p - (8 - l.length % 8 - k) by omega] at this
        rw [this, List.getD_eq_getElem?_getD, List.getElem?_eq_getElem (by omega)]
        simp [hq, show 8 - l.length % 8 - k ≤ 7 - p by omega]
      · rw [List.getD_eq_getElem?_getD, List.getElem?_eq_none (by omega)]
        simp [show ¬ 8 - l.length % 8 - k ≤ 7 - p by omega]
    · have h5 : (val bs).testBit (7 - p - (8 - l.length % 8 - k)) = false := Nat.testBit_lt_two_pow (Nat.lt_of_lt_of_le hlt (Nat.pow_le_pow_right (by omega) (by omega)))
      simp [hq, h5]
  apply text_ext (by rw [enc_len, List.length_set, hDl, List.length_append, hk]; omega)
  intro j hj
  rw [enc_bit]
  unfold bit
  by_cases e : j / 8 = l.length / 8
  · rw [e, List.getD_eq_getElem?_getD (l := D.set _ _), List.getElem?_set_self (by omega), Option.getD_some]
    have hor : ∀ (x y : UInt8) (p : Nat), bitAt (x ||| y) p = (bitAt x p || bitAt y p) := by
      intro x y p; unfold bitAt; rw [UInt8.toNat_or, Nat.testBit_or]
    rw [hor, hvb _ (by omega)]
    have h6 : bitAt (D.getD (l.length / 8) 0) (j % 8) = l.getD j false := by
      have := hDb j
      unfold bit at this
      rwa [e] at this
    rw [h6]
    by_cases h7 : j < l.length
    · have h8' : ¬ l.length % 8 ≤ j % 8 := by omega
      rw [List.getD_eq_getElem?_getD, List.getElem?_append_left h7, ← List.getD_eq_getElem?_getD]
      simp [h8']
    · have h8' : l.length % 8 ≤ j % 8 := by omega
      rw [List.getD_eq_getElem?_getD, List.getElem?_append_right (by omega), ← List.getD_eq_getElem?_getD]
      have h9 : l.getD j false = false := by rw [List.getD_eq_getElem?_getD, List.getElem?_eq_none (by omega)]; rfl
      rw [h9, show j % 8 - l.length % 8 = j - l.length by omega]
      simp [h8']
  · have h5 : (D.set (l.length / 8) (D.getD (l.length / 8) 0 ||| UInt8.ofNat (val bs * 2 ^ (8 - l.length % 8 - k)))).getD (j / 8) 0 = D.getD (j / 8) 0 := by
      rw [List.getD_eq_getElem?_getD, List.getElem?_set_ne (by omega), ← List.getD_eq_getElem?_getD]
    rw [h5]
    have := hDb j
    unfold bit at this
    rw [this]
    by_cases h7 : j < l.length
    · rw [List.getD_eq_getElem?_getD, List.getElem?_append_left h7, ← List.getD_eq_getElem?_getD]
    · rw [enc_len, List.length_append, hk] at hj
      omega

end Bm
end Go.Proofs.Ytdcenocljnlipaa

namespace Go.Proofs.Ytdcenocljnlipaa
open Go.RowKit
namespace Sched

def valueOp : Op → Bool
  | .nilCheck _ | .move _ | .assign _ | .pick .. | .load .. | .binOp .. | .unOp .. | .convert .. | .slice .. | .fieldAddr .. | .field .. | .indexAddr .. | .index .. | .build .. => true
  | .call { callee := .builtin .len, args := _, argTypes := _ } | .call { callee := .builtin .min, args := _, argTypes := _ } => true
  | _ => false

theorem value_map {P : Program} {s : Sem Value} {w w' : World} {n : Next} (h : (do pure (Next.value (← s)) : Sem Next).run P w = .ok n w') : ∃ u, n = .value u := by
  rw [Sem.run_bind] at h
  generalize s.run P w = r at h
  cases r with
  | ok v w1 =>
    simp only [Result.andThen_ok, Sem.run_pure, Result.ok.injEq] at h
    exact ⟨v, h.1.symm⟩
  | halt x w1 => simp [Result.andThen] at h

theorem value_map' {r : Result Value} {w' : World} {n : Next} (h : (r.andThen fun a w' => Result.ok (Next.value a) w') = .ok n w') : ∃ u, n = .value u := by
  cases r with
  | ok v w1 =>
    simp only [Result.andThen_ok, Result.ok.injEq] at h
    exact ⟨v, h.1.symm⟩
  | halt x w1 => simp [Result.andThen] at h

theorem value_of_ok {P : Program} {o : Oper} (hv : valueOp o.op = true) {ρ : Operand → Value} {w w' : World} {n : Next} (h : (execOp ρ o).run P w = .ok n w') : ∃ u, n = .value u := by
  obtain ⟨dst, op, ty, pos, after, guard⟩ := o
  cases op <;> simp only [valueOp] at hv <;> try (cases hv; done)
  case call c =>
    obtain ⟨callee, args, ats⟩ := c
    cases callee with
    | builtin b =>
      cases b <;> simp only at hv <;> try (cases hv; done)
      all_goals
        unfold execOp at h
        simp only [resolve, Sem.run_bind, Sem.run_pure, Result.andThen_ok, invoke, builtin] at h
        exact value_map' h
    | invoke _ _ => cases hv
    | value _ => cases hv
  case move x => unfold execOp at h; simp only [Sem.run_pure, Result.ok.injEq] at h; exact ⟨_, h.1.symm⟩
  case assign x => unfold execOp at h; simp only [Sem.run_pure, Result.ok.injEq] at h; exact ⟨_, h.1.symm⟩
  case nilCheck x =>
    have hn : ∀ w : World, ∃ v, (runtimePanic .nilDeref : Sem Next).run P w = .halt v w := fun w => ⟨_, rfl⟩
    obtain ⟨v0, hv0⟩ := hn w
    unfold execOp at h
    simp only at h
    split at h
    · rw [hv0] at h; cases h
    · rw [hv0] at h; cases h
    · rw [hv0] at h; cases h
    · split at h
      · rw [hv0] at h; cases h
      · simp only [Sem.run_bind] at h
        generalize (program : Sem Program).run P w = r1 at h
        cases r1 with
        | halt x w1 => simp [Result.andThen] at h
        | ok v1 w1 =>
          simp only [Result.andThen_ok] at h
          generalize (nilAhead _ _ _ _).run P w1 = r2 at h
          cases r2 with
          | halt x w2 => simp [Result.andThen] at h
          | ok v2 w2 =>
            simp only [Result.andThen_ok] at h
            split at h
            · simp [Result.andThen] at h
            · simp only [Sem.run_pure, Result.ok.injEq] at h; exact ⟨_, h.1.symm⟩
      · simp only [Sem.run_pure, Result.ok.injEq] at h; exact ⟨_, h.1.symm⟩
    · simp only [Sem.run_pure, Result.ok.injEq] at h; exact ⟨_, h.1.symm⟩
  case pick c a b =>
    unfold execOp at h
    simp only [Sem.run_bind] at h
    generalize (asBool (ρ c)).run P w = r at h
    cases r with
    | ok v w1 => cases v <;> simp only [Result.andThen_ok, Sem.run_pure, Result.ok.injEq, Bool.false_eq_true, if_true, if_false] at h <;> exact ⟨_, h.1.symm⟩
    | halt x w1 => simp [Result.andThen] at h
  all_goals
    unfold execOp at h
    exact value_map h

theorem quiet_yields {P : Program} {ops : Array Oper} {S : World → Prop} {o : Oper} {a : Act} {v : Value} (hv : valueOp o.op = true) (hw : Region.wanted o (yielded ops a.tmps) = true) (_hne : ∃ w, S w)
    (h : ∀ w, S w → o.quietAt P a S w v) : YieldsIf P ops S o v a := by
  refine .inl ⟨hw, fun w hS => ?_⟩
  have h1 := h w hS
  unfold Oper.quietAt at h1
  generalize hr : (execOp a.eval o).run P w = r at h1
  cases r with
  | ok n w' =>
    obtain ⟨u, rfl⟩ := value_of_ok hv hr
    obtain ⟨rfl, rfl⟩ := h1
    rfl
  | halt x w' => exact h1.elim

def postB (ops : Array Oper) : List Nat → Array Bool → Bool
  | [], listed => (Region.ready .any ops listed).isEmpty
  | k :: post, listed => (Region.ready .any ops listed == [k]) && postB ops post (listed.setIfInBounds k true)
def preB (ops : Array Oper) (post : List Nat) : List Nat → Array Bool → Bool
  | [], listed => postB ops post listed
  | i :: pre, listed => (Region.ready .any ops listed).contains i && Region.free .any ops listed i && ((ops[i]?).map (fun o => valueOp o.op)).getD false && preB ops post pre (listed.setIfInBounds i true)
def schedB (ops : Array Oper) (pre post : List Nat) : Bool :=
  Region.noSelect ops && (pre.length + post.length == ops.size) && preB ops post pre (Array.replicate ops.size false)

/-- the rest, one by one; behind each the class holds -/
def wpTail (P : Program) (ops : Array Oper) (Q : Exit → Act → World → Prop) (S : World → Prop) : List Nat → Act → World → Prop
  | [], a, w => Q .normal a w
  | k :: post, a, w => wpOp P ops Q k (fun a' w' => S w' ∧ wpTail P ops Q S post a' w') a w

theorem any_of_tail {P : Program} {ops : Array Oper} {Q : Exit → Act → World → Prop} {S : World → Prop} : ∀ (post : List Nat) (listed : Array Bool) (a : Act) (w : World), postB ops post listed = true →
    wpTail P ops Q S post a w → wpAnyH P .any ops Q S post.length listed a w
  | [], listed, a, w, hB, h => by
    simp only [postB, List.isEmpty_iff] at hB
    exact wpAnyH_done hB h 0
  | k :: post, listed, a, w, hB, h => by
    simp only [postB, Bool.and_eq_true, beq_iff_eq] at hB
    refine wpAnyH_all hB.1 (by simp) (fun i hi => ?_)
    have : i = k := by simpa using hi
    subst this
    exact wpOp_mono (fun a' w' ⟨h1, h2⟩ => ⟨h1, any_of_tail post _ a' w' hB.2 h2⟩) h

/-- the walk of 'pre', by numbers -/
def wpPre (P : Program) (ops : Array Oper) (S : World → Prop) (Q : Act → Prop) : List Nat → Act → Prop
  | [], a => Q a
  | i :: pre, a => match ops[i]? with
    | none => False
    | some o => if Region.wanted o (yielded ops a.tmps) then o.quiet P a S (wpPre P ops S Q pre) else wpPre P ops S Q pre (a.put o.dst undef)

theorem any_of_pre {P : Program} {ops : Array Oper} {Q : Exit → Act → World → Prop} {S : World → Prop} {w : World} (hS : S w) (hs : Region.noSelect ops = true) (hQ : ∀ c a d v w, Q (.panic c) (a.put d v) w → Q (.panic c) a w) (post : List Nat) :
    ∀ (pre : List Nat) (listed : Array Bool) (a : Act), preB ops post pre listed = true →
    wpPre P ops S (fun a' => wpTail P ops Q S post a' w) pre a → wpAnyH P .any ops Q S (pre.length + post.length) listed a w
  | [], listed, a, hB, h => by
    simp only [preB] at hB
    simpa using any_of_tail post listed a w hB h
  | i :: pre, listed, a, hB, h => by
    simp only [preB, Bool.and_eq_true] at hB
    obtain ⟨⟨⟨hr, hf⟩, hv⟩, hB'⟩ := hB
    unfold wpPre at h
    split at h
    · exact h.elim
    · rename_i o ho
      have hv' : valueOp o.op = true := by simpa [ho] using hv
      rw [List.length_cons, show pre.length + 1 + post.length = (pre.length + post.length) + 1 by omega]
      by_cases hw : Region.wanted o (yielded ops a.tmps) = true
      · rw [if_pos hw] at h
        obtain ⟨v, h1, h2⟩ := h
        exact wpAnyH_take ho hs hf hr (fun c a w => hQ c a _ _ w) (quiet_yields hv' hw ⟨w, hS⟩ h1) hS (any_of_pre hS hs hQ post pre _ _ hB' h2)
      · rw [if_neg hw] at h
        exact wpAnyH_take ho hs hf hr (fun c a w => hQ c a _ _ w) (.inr ⟨by simpa using hw, rfl⟩) hS (any_of_pre hS hs hQ post pre _ _ hB' h)

theorem pre_of_quiet {P : Program} {ops : Array Oper} {S : World → Prop} {Q : Act → Prop} : ∀ (pre : List Nat) (l : List Oper) (_hl : pre.map (ops[·]?) = l.map some) (a : Act), wpQuiet P ops S Q l a → wpPre P ops S Q pre a
  | [], [], _, a, h => h
  | [], _ :: _, hl, _, _ => by cases hl
  | _ :: _, [], hl, _, _ => by cases hl
  | i :: pre, o :: l, hl, a, h => by
    simp only [List.map_cons, List.cons.injEq] at hl
    unfold wpPre
    rw [hl.1]
    simp only
    unfold wpQuiet at h
    by_cases hw : Region.wanted o (yielded ops a.tmps) = true
    · rw [if_pos hw] at h ⊢
      exact Oper.quiet_mono (fun a' h' => pre_of_quiet pre l hl.2 a' h') h
    · rw [if_neg hw] at h ⊢
      exact pre_of_quiet pre l hl.2 _ h

theorem tail_of_list {P : Program} {ops : Array Oper} {Q : Exit → Act → World → Prop} : ∀ (post : List Nat) (l : List Oper) (_hl : post.map (ops[·]?) = l.map some) (a : Act) (w : World), wpList P ops Q l a w → wpTail P ops Q (fun _ => True) post a w
  | [], [], _, a, w, h => h
  | [], _ :: _, hl, _, _, _ => by cases hl
  | _ :: _, [], hl, _, _, _ => by cases hl
  | k :: post, o :: l, hl, a, w, h => by
    simp only [List.map_cons, List.cons.injEq] at hl
    unfold wpTail wpOp
    rw [hl.1]
    simp only
    unfold wpList at h
    by_cases hw : Region.wanted o (yielded ops a.tmps) = true
    · rw [if_pos hw] at h ⊢
      rcases h with h | h
      · exact .inl (Oper.wp_mono (fun a' w' h' => ⟨trivial, tail_of_list post l hl.2 a' w' h'⟩) h)
      · exact .inr h
    · rw [if_neg hw] at h ⊢
      exact ⟨trivial, tail_of_list post l hl.2 _ _ h⟩

theorem quiet_mono {P : Program} {ops : Array Oper} {S : World → Prop} {Q Q' : Act → Prop} (hq : ∀ a, Q a → Q' a) : ∀ (l : List Oper) (a : Act), wpQuiet P ops S Q l a → wpQuiet P ops S Q' l a
  | [], a, h => hq a h
  | o :: l, a, h => by
    unfold wpQuiet at h ⊢
    by_cases hw : Region.wanted o (yielded ops a.tmps) = true
    · rw [if_pos hw] at h ⊢
      exact Oper.quiet_mono (fun a' h' => quiet_mono hq l a' h') h
    · rw [if_neg hw] at h ⊢
      exact quiet_mono hq l _ h

/-- THE RULE. lp, lt: the operations numbered 'pre', 'post'. -/
theorem region {P : Program} {id : Nat} {Q : Exit → Act → World → Prop} {a : Act} {w : World} {l : List Oper} (pre post : List Nat) (lp lt : List Oper) (hm : P.follows .mixedOrders = true)
    (hB : schedB l.toArray pre post = true) (hp : pre.map (l.toArray[·]?) = lp.map some) (ht : post.map (l.toArray[·]?) = lt.map some)
    (h : wpQuiet P l.toArray (fun _ => True) (fun a' => wpList P l.toArray (NoPanic Q) lt a' w.drew) lp a) : (Code.region id l.toArray true).wp P Q a w := by
  refine wp_region_noPanic ?_
  simp only [schedB, Bool.and_eq_true, beq_iff_eq] at hB
  obtain ⟨⟨hs, hlen⟩, hpre⟩ := hB
  refine wp_region_held (S := fun _ => True) hm ?_
  rw [← hlen]
  refine any_of_pre trivial hs (fun c a d v w h => h) post pre _ a (by rw [hlen]; exact hpre) (pre_of_quiet pre lp hp a ?_)
  exact quiet_mono (fun a' h' => tail_of_list post lt ht a' _ h') lp a h
/-- The first n are the ones that hang on no world. -/
theorem region_n {P : Program} {id : Nat} {Q : Exit → Act → World → Prop} {a : Act} {w : World} {l : List Oper} (n : Nat) (hm : P.follows .mixedOrders = true)
    (hB : (schedB l.toArray (List.range n) (List.range' n (l.length - n)) && decide (n ≤ l.length)) = true)
    (h : wpQuiet P l.toArray (fun _ => True) (fun a' => wpList P l.toArray (NoPanic Q) (l.drop n) a' w.drew) (l.take n) a) : (Code.region id l.toArray true).wp P Q a w := by
  simp only [Bool.and_eq_true, decide_eq_true_eq] at hB
  obtain ⟨hB, hn⟩ := hB
  refine region (List.range n) (List.range' n (l.length - n)) (l.take n) (l.drop n) hm hB ?_ ?_ h
  · apply List.ext_getElem?
    intro i
    simp only [List.getElem?_map]
    by_cases hi : i < n
    · have : i < l.length := by omega
      simp [hi, this]
    · have : (l.take n)[i]? = none := List.getElem?_eq_none (by simp; omega)
      simp [hi, this]
  · apply List.ext_getElem?
    intro i
    simp only [List.getElem?_map]
    by_cases hi : i < l.length - n
    · have : n + i < l.length := by omega
      simp [hi, this]
    · simp [hi]
/-- so many of them, by their numbers -/
def none' : Oper := { dst := none, op := .move (.tmp 0), type := 0, pos := "", after := #[], guard := none }
def at' : List Oper → Nat → Oper
  | [], _ => none'
  | o :: _, 0 => o
  | _ :: l, n + 1 => at' l n
theorem at_zero (o : Oper) (l : List Oper) : at' (o :: l) 0 = o := rfl
theorem at_succ (o : Oper) (l : List Oper) (n : Nat) : at' (o :: l) (n + 1) = at' l n := rfl
theorem at_get : ∀ (l : List Oper) (n : Nat), n < l.length → l[n]? = some (at' l n)
  | [], _, h => by simp at h
  | _ :: _, 0, _ => rfl
  | o :: l, n + 1, h => by rw [at_succ, List.getElem?_cons_succ]; exact at_get l n (by simpa using h)
def pick (l : List Oper) : List Nat → List Oper
  | [] => []
  | i :: is => at' l i :: pick l is
theorem pick_nil (l : List Oper) : pick l [] = [] := rfl
theorem pick_cons (l : List Oper) (i : Nat) (is : List Nat) : pick l (i :: is) = at' l i :: pick l is := rfl
theorem pick_map (l : List Oper) : ∀ (is : List Nat), is.all (fun i => decide (i < l.length)) = true → is.map (l.toArray[·]?) = (pick l is).map some
  | [], _ => rfl
  | i :: is, h => by
    simp only [List.all_cons, Bool.and_eq_true, decide_eq_true_eq] at h
    simp only [pick, List.map_cons, List.getElem?_toArray, at_get l i h.1]
    have := pick_map l is h.2
    simp only [List.getElem?_toArray] at this
    rw [this]
/-- pre: the ones that hang on no world, wherever they stand -/
theorem region_at {P : Program} {id : Nat} {Q : Exit → Act → World → Prop} {a : Act} {w : World} {l : List Oper} (pre post : List Nat) (hm : P.follows .mixedOrders = true)
    (hB : (schedB l.toArray pre post && pre.all (fun i => decide (i < l.length)) && post.all (fun i => decide (i < l.length))) = true)
    (h : wpQuiet P l.toArray (fun _ => True) (fun a' => wpList P l.toArray (NoPanic Q) (pick l post) a' w.drew) (pick l pre) a) : (Code.region id l.toArray true).wp P Q a w := by
  simp only [Bool.and_eq_true] at hB
  exact region pre post _ _ hm hB.1.1 (pick_map l pre hB.1.2) (pick_map l post hB.2) h
end Sched
end Go.Proofs.Ytdcenocljnlipaa

namespace Go.Proofs.Ytdcenocljnlipaa
open Go.RowKit
namespace Bt
open Bm
set_option maxHeartbeats 400000 in
theorem holding_at (n : Nat) (x : Int) (w : World) (hx : x = (n : Int)) (hn : (n : Int) ≤ 9223372036854775807) :
    Calls Try.prog 65 #[.int .i64 x] w fun e w' => e = .returned (.int .i64 (((n + 7) / 8 : Nat) : Int)) ∧ w = w' := by
  subst hx
  by_cases h : n % 8 = 0
  · have ht : ((n : Int) % 8 == 0) = true := by rw [beq_iff_eq]; omega
    have H := Lib.hid h
    clear h
    go_enter Try.func65, Try.ntmps65
    go_wp2
    go_ret
    exact ⟨Kit.ret_int (by have := H.out; omega), rfl⟩
  · have ht : ((n : Int) % 8 == 0) = false := by rw [beq_eq_false_iff_ne]; omega
    have H := Lib.hid h
    clear h
    go_enter Try.func65, Try.ntmps65
    go_wp2
    go_ret
    exact ⟨Kit.ret_int (by have := H.out; omega), rfl⟩
theorem u64_id (n : Nat) (h : n < 2 ^ 64) : IntKind.u64.wrap (n : Int) = (n : Int) := IntWalk.u64_in _ ⟨by omega, by omega⟩
theorem mask (k : Nat) (h : k ≤ 63) : IntKind.u64.wrap (IntKind.u64.wrap ((2 : Int) ^ k) - 1) = ((2 ^ k - 1 : Nat) : Int) := by
  have h1 : 2 ^ k < 2 ^ 64 := Nat.pow_lt_pow_right (by omega) (by omega)
  have h2 : 1 ≤ 2 ^ k := Nat.one_le_two_pow
  have e : ((2 : Int) ^ k) = ((2 ^ k : Nat) : Int) := by simp
  rw [e, u64_id _ h1, show ((2 ^ k : Nat) : Int) - 1 = ((2 ^ k - 1 : Nat) : Int) by omega, u64_id _ (by omega)]
theorem shl_val (v k : Nat) (h : v * 2 ^ k < 2 ^ 64) : IntKind.u64.wrap ((v : Int) * (2 : Int) ^ k) = ((v * 2 ^ k : Nat) : Int) := by
  have e : (v : Int) * (2 : Int) ^ k = ((v * 2 ^ k : Nat) : Int) := by simp
  rw [e, u64_id _ h]
theorem low_val (x j k : Nat) (hx : x < 2 ^ 64) (hk : k ≤ 63) :
    bits BinOp.and IntKind.u64 ((x : Int) / (2 : Int) ^ j) (IntKind.u64.wrap (IntKind.u64.wrap ((2 : Int) ^ k) - 1)) = ((x / 2 ^ j % 2 ^ k : Nat) : Int) := by
  have h1 : 2 ^ k < 2 ^ 64 := Nat.pow_lt_pow_right (by omega) (by omega)
  have e : (x : Int) / (2 : Int) ^ j = ((x / 2 ^ j : Nat) : Int) := by simp
  have hd : x / 2 ^ j ≤ x := Nat.div_le_self _ _
  rw [mask k hk, e, u64_and_nat _ _ (by omega) (by omega), Nat.and_two_pow_sub_one_eq_mod]
theorem step_val (v b q k : Nat) (hb : b < 256) (hk : k ≤ 63) (hv : v * 2 ^ k + 2 ^ k ≤ 2 ^ 64) :
    bits BinOp.or IntKind.u64 (IntKind.u64.wrap ((v : Int) * (2 : Int) ^ k)) (bits BinOp.and IntKind.u64 (IntKind.u64.wrap (b : Int) / (2 : Int) ^ (q - k)) (IntKind.u64.wrap (IntKind.u64.wrap ((2 : Int) ^ k) - 1))) =
    ((v * 2 ^ k + b / 2 ^ (q - k) % 2 ^ k : Nat) : Int) := by
  have h2 : 1 ≤ 2 ^ k := Nat.one_le_two_pow
  have hm : b / 2 ^ (q - k) % 2 ^ k < 2 ^ k := Nat.mod_lt _ (by omega)
  rw [u64_id b (by omega), low_val b (q - k) k (by omega) hk, shl_val v k (by omega), u64_or_nat _ _ (by omega) (by omega), nat_join k _ _ (by simp) hm]
set_option maxRecDepth 100000 in
set_option maxHeartbeats 1000000 in
theorem take_at (s : ByteArray) (x y : Int) (a n : Nat) (w : World) (hx : x = (a : Int)) (hy : y = (n : Int)) (hn : n ≤ 64) (hs : s.size * 8 ≤ 9223372036854775807) (han : a + n ≤ 8 * s.size) :
    Calls Try.prog 62 #[.string s, .int .i64 x, .int .i64 y] w fun e w' => e = .returned (.int .u64 ((val (bitsAt s.data.toList a n) : Nat) : Int)) ∧ Kit.Dr w w' := by
  subst hx hy
  go_enter Try.func62, Try.ntmps62
  go_wp2
  go_loopw [1, 2, 7, 8, 9] (fun p q v _ _ wr => ∃ m : Nat, m ≤ n ∧ p = .int .i64 ((a + m : Nat) : Int) ∧ q = .int .i64 ((n - m : Nat) : Int) ∧ v = .int .u64 ((val (bitsAt s.data.toList a m) : Nat) : Int) ∧ Kit.Dr w wr) (fun _ q _ _ _ _ => (intOf q).toNat)
  case atStart => exact ⟨0, by omega, by simp, by simp, rfl, Kit.Dr.refl _⟩
  case round =>
    obtain ⟨m, hm, rfl, rfl, rfl, hdr⟩ := hrel
    have Hdr := Lib.hid hdr
    clear hdr
    by_cases hlt : m < n
    · obtain ⟨b, hb⟩ : ∃ b, a + m = b := ⟨_, rfl⟩
      obtain ⟨r, hr⟩ : ∃ r, n - m = r := ⟨_, rfl⟩
      rw [hb, hr]
      have hbs : b / 8 < s.size := by omega
      have hbi : (b : Int) / 8 < (s.size : Int) := by omega
      have hb0 : 0 ≤ (b : Int) / 8 := by omega
      have hr0 : 0 < r := by omega
      have hr64 : r ≤ 64 := by omega
      have hb2 : (b : Int) ≤ 9223372036854775807 := by omega
      obtain ⟨v, hv⟩ : ∃ v, val (bitsAt s.data.toList a m) = v := ⟨_, rfl⟩
      have hv64 : v < 2 ^ m := by rw [← hv]; have := val_lt (bitsAt s.data.toList a m); rwa [bitsAt_len] at this
      rw [hv]
      have Hv := Lib.hid hv
      have Hv64 := Lib.hid hv64
      have Hb := Lib.hid hb
      have Hr := Lib.hid hr
      clear hv hv64 hb hr
      obtain ⟨q, hq⟩ : ∃ q : Nat, 8 - b % 8 = q := ⟨_, rfl⟩
      have hX : 8 - (b : Int) % 8 = (q : Int) := by omega
      have hq1 : 1 ≤ q := by omega
      have hq8 : q ≤ 8 := by omega
      have Hq := Lib.hid hq
      clear hq
      go_wp2_with (refine Kit.wpList_min rfl (.tmp 15) (.tmp 16) 3 rfl q r rfl rfl ?_; intro k hk1 hk2 hk3)
      refine Sched.region_n 18 (by kernel_rfl) (by kernel_rfl) ?_
      simp only [List.take_succ_cons, List.take_nil, List.drop_succ_cons, List.drop_nil]
      repeat (first | go_big_quiet_skip | (go_big_quiet_want; go_big_quiet_op; go_big_quiet_on))
      refine wpQuiet_nil ?_
      go_wp2
      refine NoPanic.normal ?_
      go_wp2
      go_roundw
      case rel =>
        refine ⟨m + k, by have := Hr.out; omega, ?_, ?_, ?_, Hdr.out.drew⟩
        · congr 1; have := Hb.out; omega
        · congr 1; have := Hr.out; omega
        · congr 1
          have hm64 : m + k ≤ 64 := by have := Hr.out; omega
          have hvk : v * 2 ^ k + 2 ^ k ≤ 2 ^ 64 := by
            have h1 : v * 2 ^ k + 2 ^ k = (v + 1) * 2 ^ k := by rw [Nat.add_mul, Nat.one_mul]
            have h2 : (v + 1) * 2 ^ k ≤ 2 ^ m * 2 ^ k := Nat.mul_le_mul_right _ (by have := Hv64.out; omega)
            rw [← Nat.pow_add] at h2
            have h3 : 2 ^ (m + k) ≤ 2 ^ 64 := Nat.pow_le_pow_right (by omega) hm64
            omega
          have hbb := s[b / 8].toNat_lt
          rw [step_val v _ q k hbb (by omega) hvk, bitsAt_split, val_append, Hv.out, bitsAt_len, Hb.out, val_byte _ _ _ (by have := Hq.out; omega)]
          rw [show 8 - b % 8 - k = q - k by have := Hq.out; omega, List.getD_eq_getElem?_getD, List.getElem?_eq_getElem (by simpa using hbs)]
          rfl
      case measure => simp [intOf]; omega
    · obtain rfl : m = n := by omega
      have e0 : ((m - m : Nat) : Int) = 0 := by omega
      rw [e0]
      go_wp2
      go_ret
      exact ⟨rfl, Hdr.out⟩
end Bt
end Go.Proofs.Ytdcenocljnlipaa

namespace Go.Proofs.Ytdcenocljnlipaa
open Go.RowKit
namespace Bt
open Bm
def right (s : List UInt8) (n : Int) : Bool := decide (0 ≤ n) && decide (s.length = (n.toNat + 7) / 8) && decide (enc (bitsAt s 0 n.toNat) = s)
theorem right_mod (s : List UInt8) (n : Nat) (hl : s.length = (n + 7) / 8) (h0 : n % 8 = 0) : enc (bitsAt s 0 n) = s :=
  enc_of_right s n hl (fun j hj => bit_out s j (by omega))
theorem right_last (s : List UInt8) (n : Nat) (hl : s.length = (n + 7) / 8) (_h0 : n % 8 ≠ 0) :
    (((s.getD (n / 8) 0).toNat : Int) * (2 : Int) ^ (n % 8) % 256 == 0) = decide (enc (bitsAt s 0 n) = s) := by
  have e : ((s.getD (n / 8) 0).toNat : Int) * (2 : Int) ^ (n % 8) % 256 = (((s.getD (n / 8) 0).toNat * 2 ^ (n % 8) % 256 : Nat) : Int) := by simp
  rw [e, Bool.eq_iff_iff, beq_iff_eq, decide_eq_true_eq]
  generalize hb : s.getD (n / 8) 0 = b
  constructor
  · intro h
    have h' : b.toNat * 2 ^ (n % 8) % 256 = 0 := by omega
    refine enc_of_right s n hl (fun j hj => ?_)
    by_cases hj8 : j / 8 = n / 8
    · unfold bit bitAt
      rw [hj8, hb]
      have h1 : (b.toNat * 2 ^ (n % 8)).testBit (7 - j % 8 + n % 8) = b.toNat.testBit (7 - j % 8) := by
        rw [Nat.testBit_mul_two_pow]; simp
      rw [← h1]
      have h2 : (b.toNat * 2 ^ (n % 8) % 2 ^ 8).testBit (7 - j % 8 + n % 8) = false := by
        rw [show (2 ^ 8 : Nat) = 256 from rfl, h']; simp
      rw [Nat.testBit_mod_two_pow] at h2
      simpa [show 7 - j % 8 + n % 8 < 8 by omega] using h2
    · exact bit_out s j (by omega)
  · intro h
    have hz : ∀ j, n ≤ j → bit s j = false := by
      intro j hj
      rw [← h, enc_bit, List.getD_eq_getElem?_getD, List.getElem?_eq_none (by rw [bitsAt_len]; exact hj)]; rfl
    have : b.toNat * 2 ^ (n % 8) % 2 ^ 8 = 0 := by
      apply Nat.eq_of_testBit_eq
      intro i
      rw [Nat.testBit_mod_two_pow, Nat.testBit_mul_two_pow, Nat.zero_testBit]
      by_cases h1 : i < 8 ∧ n % 8 ≤ i
      · have := hz (8 * (n / 8) + (7 - (i - n % 8))) (by omega)
        unfold bit bitAt at this
        rw [show (8 * (n / 8) + (7 - (i - n % 8))) / 8 = n / 8 by omega, hb, show 7 - (8 * (n / 8) + (7 - (i - n % 8))) % 8 = i - n % 8 by omega] at this
        simp [this]
      · by_cases h2 : i < 8
        · simp [show ¬ n % 8 ≤ i by omega]
        · simp [h2]
    omega
set_option maxRecDepth 100000 in
set_option maxHeartbeats 1000000 in
theorem right_at (s : ByteArray) (n : Int) (w : World) (hs : s.size * 8 ≤ 9223372036854775807) (hn1 : -9223372036854775808 ≤ n) (hn2 : n ≤ 9223372036854775807) :
    Calls Try.prog 61 #[.agg #[.string s, .int .i64 n]] w fun e w' => e = .returned (.bool (right s.data.toList n)) ∧ Below w.heap.size w w' := by
  by_cases h0 : n < 0
  · have hd : right s.data.toList n = false := by unfold right; rw [decide_eq_false (by omega)]; rfl
    have Hd := Lib.hid hd
    clear hd
    have ht : decide (n < 0) = true := by simpa using h0
    go_enter Try.func61, Try.ntmps61
    go_wp2_with fail
    go_quiet (fail)
    go_wp2
    go_ret
    refine ⟨Kit.ret_bool Hd.out.symm, ?_⟩
    exact ((Below.refl _ _).alloc (Nat.le_refl _) _).trans ((Kit.Dr.below ⟨_, rfl⟩ _))
  · obtain ⟨m, rfl⟩ := Int.eq_ofNat_of_zero_le (show 0 ≤ n by omega)
    have ht : decide ((m : Int) < 0) = false := by simp
    by_cases hl : s.size = (m + 7) / 8
    · have htest : ((s.size : Int) != (((m + 7) / 8 : Nat) : Int)) = false := by rw [bne_eq_false_iff_eq]; omega
      by_cases hm : m % 8 = 0
      · have hd : right s.data.toList m = true := by
          unfold right
          rw [decide_eq_true (by omega), decide_eq_true (by simp; exact hl), Int.toNat_natCast, decide_eq_true (right_mod _ _ (by simp; exact hl) hm)]; rfl
        have Hd := Lib.hid hd
        have Hl := Lib.hid hl
        have htm : ((m : Int) % 8 == 0) = true := by rw [beq_iff_eq]; omega
        clear hd hl hm h0
        go_enter Try.func61, Try.ntmps61
        go_wp2_with fail
        go_quiet ((go_at_call 65; exact Kit.q_same (holding_at m _ _ rfl (by omega))))
        go_wp2
        go_ret
        refine ⟨Kit.ret_bool (Hd.out.symm), ?_⟩
        exact ((Below.refl _ _).alloc (Nat.le_refl _) _).trans ((Kit.Dr.below ⟨_, rfl⟩ _))
      · have hd : right s.data.toList m = decide (enc (bitsAt s.data.toList 0 m) = s.data.toList) := by
          unfold right
          rw [decide_eq_true (by omega), decide_eq_true (by simp; exact hl)]; simp
        have hb : (m + 7) / 8 - 1 = m / 8 := by omega
        have hls : m / 8 < s.size := by omega
        have hX0 : 0 ≤ (s.size : Int) - 1 := by omega
        have hX1 : (s.size : Int) - 1 < (s.size : Int) := by omega
        have hm8 : 0 ≤ (m : Int) % 8 := by omega
        have Hl := Lib.hid hl
        have Hm := Lib.hid hm
        have htm : ((m : Int) % 8 == 0) = false := by rw [beq_eq_false_iff_ne]; omega
        have Hd := Lib.hid hd
        clear hd hl hm h0 hb hls
        go_enter Try.func61, Try.ntmps61
        go_wp2_with fail
        go_quiet ((go_at_call 65; exact Kit.q_same (holding_at m _ _ rfl (by omega))))
        go_wp2
        go_ret
        refine ⟨Kit.ret_bool ?_, ?_⟩
        · rw [Hd.out, ← right_last s.data.toList m (by simp; exact Hl.out) Hm.out]
          have e : s.data.toList.getD (m / 8) 0 = s[s.size - 1]'(by omega) := by
            have e2 : m / 8 = s.size - 1 := by have := Hl.out; have := Hm.out; omega
            rw [e2, List.getD_eq_getElem?_getD, List.getElem?_eq_getElem (by simp; omega)]
            rfl
          rw [e]
        · exact ((Below.refl _ _).alloc (Nat.le_refl _) _).trans ((Kit.Dr.below ⟨_, rfl⟩ _))
    · have hd : right s.data.toList m = false := by
        unfold right
        rw [decide_eq_true (by omega), decide_eq_false (by simp; exact hl)]; simp
      have Hd := Lib.hid hd
      have htest : ((s.size : Int) != (((m + 7) / 8 : Nat) : Int)) = true := by rw [bne_iff_ne]; omega
      clear hd hl h0
      go_enter Try.func61, Try.ntmps61
      go_wp2_with fail
      go_quiet ((go_at_call 65; exact Kit.q_same (holding_at m _ _ rfl (by omega))))
      go_wp2
      go_ret
      refine ⟨Kit.ret_bool Hd.out.symm, ?_⟩
      exact ((Below.refl _ _).alloc (Nat.le_refl _) _).trans ((Kit.Dr.below ⟨_, rfl⟩ _))
end Bt
end Go.Proofs.Ytdcenocljnlipaa

namespace Go.Proofs.Ytdcenocljnlipaa
open Go.RowKit
namespace Bt
/-- what goes up -/
def up (x : Int) : List PanicEntry := [{ v := .iface 100 (.agg #[.int .i64 x]), recovered := false }]
theorem need_ok (x : Int) (w : World) : Calls Try.prog 49 #[.bool true, .int .i64 x] w fun e w' => e = .returned (.tuple #[]) ∧ w = w' := by
  go_enter Try.func49, Try.ntmps49
  go_wp2
  go_end0
  exact ⟨rfl, rfl⟩
theorem need_no (x : Int) (w : World) : Calls Try.prog 49 #[.bool false, .int .i64 x] w fun e w' => e = .panicked (up x) ∧ w = w' := by
  go_enter Try.func49, Try.ntmps49
  go_wp2
  exact ⟨rfl, rfl, rfl⟩
theorem need_at (b : Bool) (x : Int) (w : World) : Calls Try.prog 49 #[.bool b, .int .i64 x] w fun e w' => e = (if b then .returned (.tuple #[]) else .panicked (up x)) ∧ w = w' := by
  cases b
  · exact need_no x w
  · exact need_ok x w
theorem catch_panicking (p : Addr) (x y : Int) (w : World) (hc : w.cell? p = some (.int .i64 y)) (hz : w.frozen? p = false) (hp : p.block < w.heap.size) :
    CallsD Try.prog 64 #[.pointer (some p)] (.panicking (up x)) w fun e u' w' =>
      e = .returned (.tuple #[]) ∧ u' = .panicking [{ v := .iface 100 (.agg #[.int .i64 x]), recovered := true }] ∧ ∃ w0, Below w.heap.size w w0 ∧ w' = w0.setCell p (.int .i64 x) := by
  have hta : ∀ w : World, (Instr.typeAssert (.iface 100 (.agg #[.int .i64 x])) 20 100 true).run Try.prog w = .ok (.tuple #[.agg #[.int .i64 x], .bool true]) w := fun _ => by kernel_rfl
  refine callsD_of_wpS Try.func64 rfl fun c₀ cs hu => ?_
  apply wpS_seq
  apply wpS_region
  simp [wpOpsS, go_sem, hta, recoverD, hu, up, Try.ntmps64, Exit.thenS]
  apply wpS_seq
  apply wpS_region
  simp [wpOpsS, go_sem, Exit.thenS]
  refine wpS_cond (t := true) (by simp [Act.eval, Array.replicate]) ?_
  simp only [if_true]
  refine wpS_of_wp ?_
  have hz2 := (((Below.refl w.heap.size w).alloc (Nat.le_refl _) (.cells #[.int .i64 x] 100)).frozen hp).trans hz
  go_wp2
  simp [bodyPostS, results, Try.results64]
  exact ⟨_, (Below.refl w.heap.size w).alloc (Nat.le_refl _) _, rfl⟩
theorem catch_idle (p : Addr) (w : World) :
    CallsD Try.prog 64 #[.pointer (some p)] .returning w fun e u' w' => e = .returned (.tuple #[]) ∧ u' = .returning ∧ Below w.heap.size w w' := by
  have hta : ∀ w : World, (Instr.typeAssert .nilIface 20 100 true).run Try.prog w = .ok (.tuple #[.agg #[.int .i64 0], .bool false]) w := fun _ => by kernel_rfl
  refine callsD_of_wpS Try.func64 rfl fun c₀ cs hu => ?_
  apply wpS_seq
  apply wpS_region
  simp [wpOpsS, go_sem, hta, recoverD, hu, Try.ntmps64, Exit.thenS]
  apply wpS_seq
  apply wpS_region
  simp [wpOpsS, go_sem, Exit.thenS]
  refine wpS_cond (t := false) (by simp [Act.eval, Array.replicate]) ?_
  simp only [Bool.false_eq_true, if_false]
  refine wpS_of_wp (wp_skip ?_)
  cases c₀
  simp_all [bodyPostS, results, Try.results64]
  exact (Below.refl w.heap.size w).alloc (Nat.le_refl _) _
/-- the cell that caught makes -/
abbrev made (w : World) : World := w.alloc (.cells #[.int .i64 0] 30)
theorem caught_ret (K : FuncId) (cap : Array Value) (w : World) (R : World → Prop) (hent : ∀ w : World, (callFunc K cap).run Try.prog w = .ok (.enter K cap) w)
    (hcall : Calls Try.prog K cap (made w) fun e w' => e = .returned (.tuple #[]) ∧ R w')
    (hR : ∀ w', R w' → w'.cell? ⟨w.heap.size, 0, none⟩ = some (.int .i64 0) ∧ w'.frozen? ⟨w.heap.size, 0, none⟩ = false ∧ w.heap.size < w'.heap.size) :
    Calls Try.prog 58 #[.func (.func K) #[] cap] w fun e w' => e = .returned (.int .i64 0) ∧ ∃ w1, R w1 ∧ Below w1.heap.size (w1.setCell ⟨w.heap.size, 0, none⟩ (.int .i64 0)) w' := by
  have hmf : ∀ (fn : Fn) (first cap : Array Value) (w : World), (Instr.makeFunc fn first cap).run Try.prog w = .ok (.func fn first cap) w := fun _ _ _ _ => rfl
  go_enter_defers Try.func58, Try.ntmps58
  go_wp2
  refine hcall.mono ?_
  rintro e w1 ⟨rfl, h1⟩
  obtain ⟨hc1, hz1, hs1⟩ := hR w1 h1
  go_wp2
  refine leaves_cons (f := 64) (args := #[.pointer (some ⟨w.heap.size, 0, none⟩)]) (by simp) (by simp [go_sem]) ?_
  refine (catch_idle ⟨w.heap.size, 0, none⟩ _).mono ?_
  rintro e u' w2 ⟨rfl, rfl, hb⟩
  simp only [World.size_setCell] at hb
  have hc2 : w2.cell? ⟨w.heap.size, 0, none⟩ = some (.int .i64 0) := by
    rw [hb.cell hs1]
    exact World.cell?_setCell_same _ _ _ hc1
  simp [Leaves, settle, results, Try.results58, go_sem, hc2]
  exact ⟨w1, h1, by simpa using hb⟩
theorem caught_up (K : FuncId) (cap : Array Value) (x : Int) (w : World) (R : World → Prop) (hent : ∀ w : World, (callFunc K cap).run Try.prog w = .ok (.enter K cap) w)
    (hcall : Calls Try.prog K cap (made w) fun e w' => e = .panicked (up x) ∧ R w')
    (hR : ∀ w', R w' → w'.cell? ⟨w.heap.size, 0, none⟩ = some (.int .i64 0) ∧ w'.frozen? ⟨w.heap.size, 0, none⟩ = false ∧ w.heap.size < w'.heap.size) :
    Calls Try.prog 58 #[.func (.func K) #[] cap] w fun e w' => e = .returned (.int .i64 x) ∧ ∃ w1, R w1 ∧ Below w.heap.size w1 w' := by
  have hmf : ∀ (fn : Fn) (first cap : Array Value) (w : World), (Instr.makeFunc fn first cap).run Try.prog w = .ok (.func fn first cap) w := fun _ _ _ _ => rfl
  go_enter_defers Try.func58, Try.ntmps58
  go_wp2
  refine hcall.mono ?_
  rintro e w1 ⟨rfl, h1⟩
  obtain ⟨hc1, hz1, hs1⟩ := hR w1 h1
  go_wp2
  refine leaves_cons (f := 64) (args := #[.pointer (some ⟨w.heap.size, 0, none⟩)]) (by simp) (by simp [go_sem]) ?_
  refine (catch_panicking ⟨w.heap.size, 0, none⟩ x 0 w1 hc1 hz1 hs1).mono ?_
  rintro e u' w2 ⟨rfl, rfl, w0, hb, rfl⟩
  have hc2 : w0.cell? ⟨w.heap.size, 0, none⟩ = some (.int .i64 0) := by
    rw [hb.cell hs1]; exact hc1
  simp [Leaves, settle, results, Try.results58, go_sem, hc2]
  exact ⟨w1, h1, Below.setCell (hb.mono (Nat.le_of_lt hs1)) (p := ⟨w.heap.size, 0, none⟩) (Nat.le_refl _) _⟩
end Bt
end Go.Proofs.Ytdcenocljnlipaa

namespace Go.Proofs.Ytdcenocljnlipaa
open Go.RowKit
namespace Sched
theorem wp_imp {P : Program} {o : Oper} {a : Act} {w : World} {K K' : Act → World → Prop} {Q Q' : Exit → Act → World → Prop} (hK : ∀ a w, K a w → K' a w) (hQ : ∀ e a w, Q e a w → Q' e a w) (h : o.wp P a w K Q) : o.wp P a w K' Q' := by
  unfold Oper.wp at *
  generalize (execOp a.eval o).run P w = r at *
  cases r with
  | ok n w' =>
    cases n <;> simp only [Oper.upon] at h ⊢
    case value => exact hK _ _ h
    case skip => exact hK _ _ h
    case defer => exact hK _ _ h
    case enter =>
      refine h.mono fun e w'' h' => ?_
      cases e with
      | returned v => exact hK _ _ h'
      | panicked c => exact hQ _ _ _ h'
      | outgrown => obtain ⟨a, w, h⟩ := h'; exact ⟨a, w, hQ _ _ _ h⟩
    case row =>
      intro b k
      obtain ⟨v, w2, h1, h2⟩ := h b k
      exact ⟨v, w2, hK _ _ h1, h2⟩
  | halt x w' =>
    cases x <;> simp only [Oper.upon] at h ⊢
    exact hQ _ _ _ h
theorem tail_of_mid {P : Program} {ops : Array Oper} {Q : Exit → Act → World → Prop} {S : World → Prop} {w : World} (hS : S w) (last : Nat) : ∀ (mid : List Nat) (l : List Oper) (_hl : mid.map (ops[·]?) = l.map some) (a : Act),
    wpQuiet P ops (fun w' => w' = w) (fun a' => wpTail P ops Q S [last] a' w) l a → wpTail P ops Q S (mid ++ [last]) a w
  | [], [], _, a, h => h
  | [], _ :: _, hl, _, _ => by cases hl
  | _ :: _, [], hl, _, _ => by cases hl
  | k :: mid, o :: l, hl, a, h => by
    simp only [List.map_cons, List.cons.injEq] at hl
    rw [List.cons_append]
    unfold wpTail wpOp
    rw [hl.1]
    simp only
    unfold wpQuiet at h
    by_cases hw : Region.wanted o (yielded ops a.tmps) = true
    · rw [if_pos hw] at h ⊢
      exact .inl (Oper.wp_of_quiet (C := fun w' => w' = w) rfl (fun a' w' e h' => by subst e; exact ⟨hS, tail_of_mid hS last mid l hl.2 a' h'⟩) h)
    · rw [if_neg hw] at h ⊢
      exact ⟨hS, tail_of_mid hS last mid l hl.2 _ h⟩
theorem tail_of_last {P : Program} {ops : Array Oper} {Q : Exit → Act → World → Prop} {S : World → Prop} (k : Nat) (o : Oper) (ho : ops[k]? = some o) (a : Act) (w : World) (h : wpList P ops (fun e a w => S w ∧ Q e a w) [o] a w) : wpTail P ops Q S [k] a w := by
  unfold wpTail wpOp
  rw [ho]
  simp only
  unfold wpList at h
  by_cases hw : Region.wanted o (yielded ops a.tmps) = true
  · rw [if_pos hw] at h ⊢
    rcases h with h | ⟨h1, a, w, h2⟩
    · exact .inl (wp_imp (fun a w h => h) (fun e a w h => h.2) h)
    · exact .inr ⟨h1, a, w, h2.2⟩
  · rw [if_neg hw] at h ⊢
    exact h
theorem region_mid {P : Program} {id : Nat} {Q : Exit → Act → World → Prop} {a : Act} {w : World} {l : List Oper} (S : World → Prop) (pre mid : List Nat) (last : Nat) (hS : S w.drew) (hm : P.follows .mixedOrders = true)
    (hB : (schedB l.toArray pre (mid ++ [last]) && pre.all (fun i => decide (i < l.length)) && mid.all (fun i => decide (i < l.length)) && decide (last < l.length)) = true)
    (h : wpQuiet P l.toArray S (fun a1 => wpQuiet P l.toArray (fun w' => w' = w.drew) (fun a2 => wpList P l.toArray (fun e a3 w3 => S w3 ∧ NoPanic Q e a3 w3) [at' l last] a2 w.drew) (pick l mid) a1) (pick l pre) a) : (Code.region id l.toArray true).wp P Q a w := by
  refine wp_region_noPanic ?_
  simp only [Bool.and_eq_true, decide_eq_true_eq] at hB
  obtain ⟨⟨⟨hB, hp⟩, hmid⟩, hl⟩ := hB
  simp only [schedB, Bool.and_eq_true, beq_iff_eq] at hB
  obtain ⟨⟨hs, hlen⟩, hpre⟩ := hB
  refine wp_region_held (S := S) hm ?_
  rw [← hlen]
  refine any_of_pre hS hs (fun c a d v w h => h) _ pre _ a (by rw [hlen]; exact hpre) (pre_of_quiet pre (pick l pre) (pick_map l pre hp) a ?_)
  refine quiet_mono (fun a' h' => tail_of_mid hS last mid (pick l mid) (pick_map l mid hmid) a' ?_) (pick l pre) a h
  refine quiet_mono (fun a' h' => tail_of_last last (at' l last) ?_ a' _ h') (pick l mid) a' h'
  rw [List.getElem?_toArray, at_get l last hl]
theorem setCell_self {w : World} {b o : Nat} {u : Value} (h : w.cell? ⟨b, o, none⟩ = some u) : w.setCell ⟨b, o, none⟩ u = w := by
  have e : (w.setCell ⟨b, o, none⟩ u).heap = w.heap := by
    apply Array.ext_getElem?
    intro i
    unfold World.setCell
    simp only
    rw [Array.getElem?_modify]
    by_cases hi : b = i
    · subst hi
      rw [if_pos rfl]
      simp only [World.cell?] at h
      cases hb : w.heap[b]? with
      | none => rfl
      | some ob =>
        rw [hb] at h
        cases ob with
        | cells c t f =>
          simp only [Option.map_some, Option.some.injEq, Obj.cells.injEq, and_true]
          simp at h ⊢
          apply Array.ext_getElem?
          intro j
          rw [Array.getElem?_setIfInBounds]
          split
          · rename_i hj
            subst hj
            split
            · exact h.symm
            · rename_i h'
              rw [Array.getElem?_eq_none (by omega)]
          · rfl
        | _ => rfl
    · rw [if_neg hi]
  have e2 : w.setCell ⟨b, o, none⟩ u = { w with heap := (w.setCell ⟨b, o, none⟩ u).heap } := rfl
  rw [e2, e]
end Sched
end Go.Proofs.Ytdcenocljnlipaa

namespace Go.Proofs.Ytdcenocljnlipaa
open Go.RowKit
namespace Bt
open Bm
theorem info_byte : (Try.prog.info? 5).map (fun i => (i.zero, i.size, i.bytes)) = some (some (.int .u8 0), 1, 1) := by kernel_rfl

/-- block k is no row of bytes -/
def NotBytes (w : World) (k : Nat) : Prop := ∀ c f, w.heap[k]? ≠ some (.cells c 5 f)
/-- of what was there, only block rb and rows of bytes from base on may have turned -/
def Kept (rb base : Nat) (w w' : World) : Prop := rb < base ∧ Below rb w w' ∧ ∀ k, rb < k → (k < base ∨ (k < w.heap.size ∧ NotBytes w k)) → w'.heap[k]? = w.heap[k]?
theorem Kept.refl {rb base : Nat} (h : rb < base) (w : World) : Kept rb base w w := ⟨h, Below.refl _ _, fun _ _ _ => rfl⟩
theorem Kept.trans {rb base : Nat} {a b c : World} (h : Kept rb base a b) (k : Kept rb base b c) : Kept rb base a c :=
  ⟨h.1, h.2.1.trans k.2.1, fun j h1 h2 => by
    have e := h.2.2 j h1 h2
    rw [k.2.2 j h1 (h2.imp id fun h3 => ⟨Nat.lt_of_lt_of_le h3.1 h.2.1.size, fun c f => by rw [e]; exact h3.2 c f⟩), e]⟩
theorem Kept.full {rb base : Nat} {a b c : World} (h : Kept rb base a b) (hs : base ≤ b.heap.size) (k : Below b.heap.size b c) : Kept rb base a c :=
  h.trans ⟨h.1, k.mono (by have := h.1; omega), fun j _ h2 => k.block j (h2.elim (fun h => by omega) (fun h => h.1))⟩
theorem Kept.set {rb base : Nat} {a b : World} (h : Kept rb base a b) (off : Nat) (u : Value) : Kept rb base a (b.setCell ⟨rb, off, none⟩ u) :=
  h.trans ⟨h.1, (Below.refl rb b).setCell (p := ⟨rb, off, none⟩) (Nat.le_refl _) u, fun j h1 _ => Below.heap_setCell b ⟨rb, off, none⟩ u j (by simp; omega)⟩
theorem Kept.grown {rb base : Nat} {a b c : World} {v : Value} {n : Nat} {xs : List Value} (h : Kept rb base a b) (ho : b.ownsRow base 5 1 v n xs) (hs : base ≤ b.heap.size) (hg : b.grownBy c v.ownBlock) : Kept rb base a c := by
  refine h.trans ⟨h.1, (Below.refl rb b).grown hg (by have := h.1; omega) (fun j e => by have := (ho.lt j e).1; have := h.1; omega), fun j h1 h2 => ?_⟩
  obtain ⟨_, ⟨rfl, _⟩ | ⟨g, cap, cur, rfl, e2, e3, _⟩⟩ := ho
  · exact hg.block j (h2.elim (fun h => by omega) (fun h => h.1)) (by simp [Value.ownBlock])
  · refine hg.block j (h2.elim (fun h => by omega) (fun h => h.1)) (fun e => ?_)
    simp only [Value.ownBlock, Option.some.injEq] at e
    rcases h2 with h2 | h2
    · omega
    · exact h2.2 cur (0, 0) (by rw [e]; exact e3)
theorem Kept.setOwn {rb base : Nat} {a b : World} {g cap n : Nat} {xs : List Value} (h : Kept rb base a b) (ho : b.ownsRow base 5 1 (.slice (some ⟨g, 0, none⟩) n cap) n xs) (hs : base ≤ b.heap.size) (p : Nat) (u : Value) : Kept rb base a (b.setCell ⟨g, p, none⟩ u) :=
  h.grown ho hs (ho.stored p u).2
theorem Kept.cell {rb base : Nat} {w w' : World} (h : Kept rb base w w') {p : Addr} (h1 : p.block ≠ rb) (h2 : p.block < base ∨ (p.block < w.heap.size ∧ NotBytes w p.block)) : w'.cell? p = w.cell? p := by
  by_cases h3 : p.block < rb
  · exact h.2.1.cell h3
  · exact World.cell?_of_block (w := w) (h.2.2 p.block (by omega) h2)
theorem Kept.frozen {rb base : Nat} {w w' : World} (h : Kept rb base w w') {p : Addr} (h1 : p.block ≠ rb) (h2 : p.block < base ∨ (p.block < w.heap.size ∧ NotBytes w p.block)) : w'.frozen? p = w.frozen? p := by
  by_cases h3 : p.block < rb
  · exact h.2.1.frozen h3
  · exact World.frozen?_of_block (w := w) (h.2.2 p.block (by omega) h2)
theorem Kept.size {rb base : Nat} {w w' : World} (h : Kept rb base w w') : w.heap.size ≤ w'.heap.size := h.2.1.size

/-- the row at block rb holds l, packed -/
structure RowAt (w : World) (rb base : Nat) (l : List Bool) (v : Value) : Prop where
  lt : rb < base
  le : base ≤ w.heap.size
  c0 : w.cell? ⟨rb, 0, none⟩ = some v
  c1 : w.cell? ⟨rb, 1, none⟩ = some (.int .i64 (l.length : Int))
  z0 : w.frozen? ⟨rb, 0, none⟩ = false
  z1 : w.frozen? ⟨rb, 1, none⟩ = false
  own : w.ownsRow base 5 1 v (enc l).length ((enc l).map Kit.B)

theorem or_val (b : UInt8) (P q k : Nat) (hP : P < 2 ^ k) (hk : k ≤ q) (hq : q ≤ 8) :
    bits BinOp.or IntKind.u8 (b.toNat : Int) (IntKind.u64.wrap ((P : Int) * (2 : Int) ^ (q - k)) % 256) = ((b ||| UInt8.ofNat (P * 2 ^ (q - k))).toNat : Int) := by
  have h1 : P * 2 ^ (q - k) < 2 ^ k * 2 ^ (q - k) := Nat.mul_lt_mul_of_pos_right hP (Nat.two_pow_pos _)
  rw [← Nat.pow_add, show k + (q - k) = q by omega] at h1
  have h2 : 2 ^ q ≤ 2 ^ 8 := Nat.pow_le_pow_right (by omega) hq
  have h3 : P * 2 ^ (q - k) < 256 := by omega
  rw [shl_val P (q - k) (by omega), show (((P * 2 ^ (q - k) : Nat) : Int) % 256) = ((P * 2 ^ (q - k) : Nat) : Int) by omega]
  have hb := b.toNat_lt
  rw [u8_or_nat b.toNat _ (by omega) (by omega), UInt8.toNat_or, UInt8.toNat_ofNat', Nat.mod_eq_of_lt h3]
set_option maxRecDepth 100000 in
set_option maxHeartbeats 1000000 in
theorem lay_at (rb base : Nat) (l : List Bool) (s : Value) (x y : Int) (v n : Nat) (w : World) (hR : RowAt w rb base l s) (hx : x = (v : Int)) (hy : y = (n : Int)) (hv : v < 2 ^ 64) (hn : n ≤ 64) (hl : l.length + n ≤ 1000000000000000) :
    Calls Try.prog 50 #[.pointer (some ⟨rb, 0, none⟩), .int .u64 x, .int .i64 y] w fun e w' => e = .returned (.tuple #[]) ∧ (∃ s', RowAt w' rb base (l ++ num v n) s') ∧ Kept rb base w w' := by
  subst hx hy
  obtain ⟨i0, hi, hz0, hz1, hz2⟩ := info_parts info_byte
  have Hi := Lib.hid hi
  have Hz0 := Lib.hid hz0
  have Hz1 := Lib.hid hz1
  have Hz2 := Lib.hid hz2
  clear hi hz0 hz1 hz2
  go_enter Try.func50, Try.ntmps50
  go_wp2
  go_loopw [2, 6, 7, 8] (fun q _ _ _ wr => ∃ m : Nat, m ≤ n ∧ q = .int .i64 ((n - m : Nat) : Int) ∧ (∃ s', RowAt wr rb base (l ++ num (v / 2 ^ (n - m)) m) s') ∧ Kept rb base w wr) (fun q _ _ _ _ => (intOf q).toNat)
  case atStart => exact ⟨0, by omega, by simp, ⟨s, by simpa [num] using hR⟩, Kept.refl hR.lt _⟩
  case round =>
    obtain ⟨m, hm, rfl, ⟨s', hr⟩, hk⟩ := hrel
    have Hr := Lib.hid hr
    have Hk := Lib.hid hk
    clear hr hk hR
    by_cases hlt : m < n
    · obtain ⟨L, hL⟩ : ∃ L, l ++ num (v / 2 ^ (n - m)) m = L := ⟨_, rfl⟩
      rw [hL] at Hr
      obtain ⟨r, hr⟩ : ∃ r, n - m = r := ⟨_, rfl⟩
      have hLl : L.length + r ≤ 1000000000000000 := by rw [← hL, List.length_append, num_len]; omega
      rw [hr]
      have hr0 : 0 < r := by omega
      have hr64 : r ≤ 64 := by omega
      obtain ⟨h1, h2, hc0, hc1, hf0, hf1, hown⟩ := Hr.out
      clear Hr
      have HL := Lib.hid hL
      have HR := Lib.hid hr
      have Hown := Lib.hid hown
      clear hL hr hown hlt
      obtain ⟨q, hq⟩ : ∃ q : Nat, 8 - L.length % 8 = q := ⟨_, rfl⟩
      have hX : 8 - (L.length : Int) % 8 = (q : Int) := by omega
      have hq1 : 1 ≤ q := by omega
      have hq8 : q ≤ 8 := by omega
      have HQ := Lib.hid hq
      clear hq
      by_cases h8 : L.length % 8 = 0
      case' pos =>
        have ht : ((L.length : Int) % 8 == 0) = true := by rw [beq_iff_eq]; omega
        have c1 : (enc L).length + 1 ≤ maxLen := by rw [enc_len]; unfold maxLen; omega
        have c2 : ((enc L).length + 1) * 1 ≤ 140737488355328 := by rw [enc_len]; omega
        have c5 : 1 ≤ maxLen := by unfold maxLen; omega
        have hone : ∀ u ∈ [Value.int .u8 (0 : Int)], u.oneCell' = true := by simp [Value.oneCell']
        have H8 := Lib.hid h8
        clear h8
        go_wp2_with (first
          | (refine Kit.wpList_min rfl (.tmp 32) (.tmp 33) 3 rfl q r rfl rfl ?_; intro k hk1 hk2 hk3)
          | (at_builtin; refine Kit.wpList_append_any rfl (.tmp 21) (.tmp 22) 92 rfl base 5 i0 (.int .u8 0) 1 1 Try.underlying92 Hi.out Hz0.out Hz1.out Hz2.out rfl (by decide) s' _ _ rfl (Hown.out.alloc _) _ 1 [.int .u8 0] rfl (Kit.Sl.lit _ #[.int .u8 0] 5 1 1 rfl c5) hone c1 c2 (Kit.le_alloc h2 _) ?_; intro v3 w3 hown3 hg3; obtain ⟨g, cap, rfl, hg, hcap, hcm⟩ := Kit.own_pos hown3 (by omega); have hb3 : Below base (wr.alloc (.cells #[.int .u8 0] 5)) w3 := (Below.refl _ _).grown hg3 (Kit.le_alloc h2 _) (fun j e => (Hown.out.lt j e).1); have hb4 : Below base wr w3 := ((Below.refl base wr).alloc h2 _).trans hb3; have d0 := (hb4.cell (p := ⟨rb, 0, none⟩) h1).trans hc0; have d1 := (hb4.cell (p := ⟨rb, 1, none⟩) h1).trans hc1; have e0 := (hb4.frozen (p := ⟨rb, 0, none⟩) h1).trans hf0; have e1 := (hb4.frozen (p := ⟨rb, 1, none⟩) h1).trans hf1; have Hown3 := Lib.hid hown3; clear hown3; have Hk3 : Hid (Kept rb base wr w3) := ((Kept.refl h1 wr).full h2 ((Below.refl _ _).alloc (Nat.le_refl _) _)).grown (Hown.out.alloc _) (Kit.le_alloc h2 _) hg3; clear hg3 hb3; have Hb4 := Lib.hid hb4; clear hb4))
        obtain ⟨p, hp⟩ : ∃ p, L.length / 8 = p := ⟨_, rfl⟩
        obtain ⟨D, hD⟩ : ∃ D, enc L ++ [0] = D := ⟨_, rfl⟩
        have hlen : (enc L).length + 1 = p + 1 := by rw [enc_len]; have := H8.out; omega
        rw [hlen] at Hown3 hcap ⊢
        have Hown4 : Hid ((w3.setCell ⟨rb, 0, none⟩ (.slice (some ⟨g, 0, none⟩) (p + 1) cap)).ownsRow base 5 1 (.slice (some ⟨g, 0, none⟩) (p + 1) cap) (p + 1) (D.map Kit.B)) := by
          have := ownsRow_setCell_below Hown3.out (a := ⟨rb, 0, none⟩) h1 (.slice (some ⟨g, 0, none⟩) (p + 1) cap)
          rw [← hD, List.map_append]; exact this
        have hkept : Kept rb base wr (w3.setCell ⟨rb, 0, none⟩ (.slice (some ⟨g, 0, none⟩) (p + 1) cap)) := Hk3.out.set 0 _
        have a0 : (w3.setCell ⟨rb, 0, none⟩ (.slice (some ⟨g, 0, none⟩) (p + 1) cap)).cell? ⟨rb, 0, none⟩ = some (.slice (some ⟨g, 0, none⟩) (p + 1) cap) := World.cell?_setCell_same _ _ _ d0
        have a1 : (w3.setCell ⟨rb, 0, none⟩ (.slice (some ⟨g, 0, none⟩) (p + 1) cap)).cell? ⟨rb, 1, none⟩ = some (.int .i64 (L.length : Int)) := by rw [World.cell?_setCell_other _ _ _ _ (by simp)]; exact d1
        have b0 : (w3.setCell ⟨rb, 0, none⟩ (.slice (some ⟨g, 0, none⟩) (p + 1) cap)).frozen? ⟨rb, 0, none⟩ = false := by simpa using e0
        have b1 : (w3.setCell ⟨rb, 0, none⟩ (.slice (some ⟨g, 0, none⟩) (p + 1) cap)).frozen? ⟨rb, 1, none⟩ = false := by simpa using e1
        have hs4 : base ≤ (w3.setCell ⟨rb, 0, none⟩ (.slice (some ⟨g, 0, none⟩) (p + 1) cap)).heap.size := by simpa using Nat.le_trans h2 Hb4.out.size
        obtain ⟨w4, hw4⟩ : ∃ w4, w3.setCell ⟨rb, 0, none⟩ (.slice (some ⟨g, 0, none⟩) (p + 1) cap) = w4 := ⟨_, rfl⟩
        rw [hw4] at Hown4 hkept a0 a1 b0 b1 hs4 ⊢
        have HD : Hid (D = if L.length % 8 = 0 then enc L ++ [0] else enc L) := (by rw [if_pos H8.out, hD] : D = if L.length % 8 = 0 then enc L ++ [0] else enc L)
        have Hkept := Lib.hid hkept
        have Hp := Lib.hid hp
        have Hs4 := Lib.hid hs4
        clear hw4 hkept hD hp d0 d1 e0 e1 hc0 hc1 hf0 hf1 Hown Hown3 hlen c1 c2 c5 hone hs4 H8 ht Hb4 Hk3
      case' neg =>
        have ht : ((L.length : Int) % 8 == 0) = false := by rw [beq_eq_false_iff_ne]; omega
        have H8 : Hid (¬ L.length % 8 = 0) := h8
        clear h8
        obtain ⟨g, cap, rfl, hg, hcap, hcm⟩ := Kit.own_pos Hown.out (by rw [enc_len]; have := H8.out; omega)
        obtain ⟨p, hp⟩ : ∃ p, L.length / 8 = p := ⟨_, rfl⟩
        obtain ⟨D, hD⟩ : ∃ D, enc L = D := ⟨_, rfl⟩
        have hlen : (enc L).length = p + 1 := by rw [enc_len]; have := H8.out; omega
        have a0 := hc0
        have a1 := hc1
        have b0 := hf0
        have b1 := hf1
        have Hown4 := Hown
        have Hs4 := Lib.hid h2
        rw [hlen] at Hown4 hcap a0
        rw [hD] at Hown4
        have HD : Hid (D = if L.length % 8 = 0 then enc L ++ [0] else enc L) := (by rw [if_neg H8.out, hD] : D = if L.length % 8 = 0 then enc L ++ [0] else enc L)
        have Hp := Lib.hid hp
        clear hD hp hc0 hc1 hf0 hf1 Hown hlen H8
        go_wp2_with (refine Kit.wpList_min rfl (.tmp 32) (.tmp 33) 3 rfl q r rfl rfl ?_; intro k hk1 hk2 hk3)
        clear ht
        obtain ⟨w4, hw4⟩ : ∃ w4, wr = w4 := ⟨_, rfl⟩
        rw [hw4] at Hown4 a0 a1 b0 b1 Hs4 ⊢
        have Hkept : Hid (Kept rb base wr w4) := (by rw [← hw4]; exact Kept.refl h1 wr : Kept rb base wr w4)
        clear hw4
      all_goals
        have HLl := Lib.hid hLl
        have HX := Lib.hid hX
        have H2 := Lib.hid h2
        have hkr : (k : Int) ≤ (r : Int) := by omega
        have hkq : (k : Int) ≤ (q : Int) := by omega
        have hp2 : (p : Int) ≤ 1000000000000000 := by have := Hp.out; have := HLl.out; omega
        have hgb : ¬ rb = g := by omega
        have hgb2 : ¬ g = rb := by omega
        clear hLl hX h2
        go_quiet (fail)
        go_wp2
        rw [low_val v (r - k) k hv (by omega)]
        obtain ⟨P, hP⟩ : ∃ P, v / 2 ^ (r - k) % 2 ^ k = P := ⟨_, rfl⟩
        rw [hP]
        have hDl : D.length = p + 1 := by have := Hown4.out.1; simpa using this
        have hpD : p < D.length := by omega
        obtain ⟨d, hd⟩ : ∃ d, (D.getD p 0).toNat = d := ⟨_, rfl⟩
        have hdd : D[p].toNat = d := by rw [← hd, List.getD_eq_getElem?_getD, List.getElem?_eq_getElem hpD]; rfl
        have hcl := Hown4.out.cellAt p (by omega)
        have hfr := Hown4.out.frozenAt p
        rw [List.getElem?_map, List.getElem?_eq_getElem hpD, Option.map_some, Kit.B, hdd] at hcl
        have HP := Lib.hid hP
        have Hd := Lib.hid hd
        have HpD := Lib.hid hpD
        have HDl := Lib.hid hDl
        clear hP hd hdd hpD hDl
        have hself : (w4.drewN nq).drew.setCell ⟨g, p, none⟩ (.int .u8 (d : Int)) = (w4.drewN nq).drew := Sched.setCell_self (by simpa using hcl)
        refine Sched.region_mid (fun w' => ∃ u, w' = (w4.drewN nq).drew.setCell ⟨g, p, none⟩ u) [0, 1, 2, 3, 4, 5, 6, 7, 8, 9, 10, 12, 13, 14, 15, 16, 17] [11, 18, 19] 20 ⟨_, hself.symm⟩ (by kernel_rfl) (by kernel_rfl) ?_
        clear hself
        simp only [Sched.pick_cons, Sched.pick_nil, Sched.at_succ, Sched.at_zero]
        repeat (first | go_big_quiet_skip | (go_big_quiet_want; go_big_quiet_op; go_big_quiet_on))
        refine wpQuiet_nil ?_
        repeat (first | go_big_quiet_skip | (go_big_quiet_want; go_big_quiet_op; go_big_quiet_on))
        refine wpQuiet_nil ?_
        go_wp2
        refine ⟨⟨_, rfl⟩, ?_⟩
        refine NoPanic.normal ?_
        go_wp2
        have hk1' : 1 ≤ k := by omega
        have hPk : P < 2 ^ k := by rw [← HP.out]; exact Nat.mod_lt _ (Nat.two_pow_pos _)
        have hstep : l ++ num (v / 2 ^ (n - (m + k))) (m + k) = L ++ num (v / 2 ^ (r - k)) k := by
          have e1 : n - (m + k) = r - k := by have := HR.out; omega
          rw [e1, num_split _ (m + k) m (by omega), ← List.append_assoc, ← HL.out, Nat.div_div_eq_div_mul, ← Nat.pow_add, show m + k - m = k by omega, show r - k + k = n - m by have := HR.out; omega]
        have hmore := enc_more L (num (v / 2 ^ (r - k)) k) k (num_len _ _) hk1' (by have := HQ.out; omega) D HD.out
        rw [val_num, HP.out, HQ.out, Hp.out] at hmore
        have hw : wrap64 ((L.length : Int) + k) = (((L ++ num (v / 2 ^ (r - k)) k).length : Nat) : Int) := by
          rw [List.length_append, num_len, IntWalk.wrap64_in _ ⟨by omega, by have := HLl.out; omega⟩]; omega
        have hv' := or_val (D.getD p 0) P q k hPk hk1 hq8
        rw [Hd.out] at hv'
        have hlen : (enc (L ++ num (v / 2 ^ (r - k)) k)).length = p + 1 := by rw [enc_len, List.length_append, num_len]; have := Hp.out; have := HQ.out; omega
        refine ⟨⟨m + k, by have := HR.out; omega, by congr 1; have := HR.out; omega, ?_, ?_⟩, by simp [intOf]; omega⟩
        · rw [hstep, hw, hv']
          have hown5 := (World.ownsRow.stored (w := w4.drewN (nq + 1)) Hown4.out p (Kit.B (D.getD p 0 ||| UInt8.ofNat (P * 2 ^ (q - k))))).1
          rw [← List.map_set, ← hmore] at hown5
          refine ⟨.slice (some ⟨g, 0, none⟩) (p + 1) cap, h1, by simpa using Hs4.out, ?_, ?_, ?_, ?_, ?_⟩
          · rw [World.cell?_setCell_other _ _ _ _ (by simp), World.cell?_setCell_other _ _ _ _ (by simp [])]; exact a0
          · refine World.cell?_setCell_same _ _ _ (u := .int .i64 (L.length : Int)) ?_
            rw [World.cell?_setCell_other _ _ _ _ (by simp [])]; exact a1
          · simpa using b0
          · simpa using b1
          · rw [hlen]
            exact ownsRow_setCell_below hown5 (a := ⟨rb, 1, none⟩) h1 _
        · exact (((Hk.out.trans Hkept.out).full Hs4.out (Kit.Dr.below ⟨nq + 1, rfl⟩ _)).setOwn (b := w4.drewN (nq + 1)) Hown4.out Hs4.out p _).set 1 _
    · obtain rfl : m = n := by omega
      have e0 : ((m - m : Nat) : Int) = 0 := by omega
      rw [e0]
      go_wp2
      go_end0
      exact ⟨rfl, ⟨s', by simpa using Hr.out⟩, Hk.out⟩
end Bt
end Go.Proofs.Ytdcenocljnlipaa

namespace Go.Proofs.Ytdcenocljnlipaa
open Go.RowKit
namespace Bt
open Bm
/-- bits as a text -/
def pack (b : List Bool) : ByteArray := ⟨(enc b).toArray⟩
theorem pack_size (b : List Bool) : (pack b).size = (b.length + 7) / 8 := by
  have : (pack b).size = (enc b).length := by simp [pack, ByteArray.size]
  rw [this, enc_len]
theorem pack_list (b : List Bool) : (pack b).data.toList = enc b := by simp [pack]
theorem right_pack (b : List Bool) : right (pack b).data.toList (b.length : Int) = true := by
  unfold right
  rw [pack_list, Int.toNat_natCast, bitsAt_enc0, enc_len]
  simp
theorem pack_of_right (s : ByteArray) (n : Int) (h : right s.data.toList n = true) : ∃ b : List Bool, s = pack b ∧ n = (b.length : Int) := by
  unfold right at h
  simp only [Bool.and_eq_true, decide_eq_true_eq] at h
  refine ⟨bitsAt s.data.toList 0 n.toNat, ?_, by rw [bitsAt_len]; omega⟩
  unfold pack
  rw [h.2]
theorem right_ok (b : List Bool) (w : World) (hb : b.length ≤ 1000000000000000) :
    Calls Try.prog 61 #[.agg #[.string (pack b), .int .i64 (b.length : Int)]] w fun e w' => e = .returned (.bool true) ∧ Below w.heap.size w w' := by
  have := right_at (pack b) (b.length : Int) w (by rw [pack_size]; omega) (by omega) (by omega)
  rwa [right_pack] at this
theorem RowAt.below {w w' : World} {rb base : Nat} {l : List Bool} {v : Value} (h : RowAt w rb base l v) (hb : Below w.heap.size w w') : RowAt w' rb base l v := by
  have hlt : rb < w.heap.size := Nat.lt_of_lt_of_le h.lt h.le
  refine ⟨h.lt, Nat.le_trans h.le hb.size, ?_, ?_, ?_, ?_, ?_⟩
  · rw [hb.cell (p := ⟨rb, 0, none⟩) hlt]; exact h.c0
  · rw [hb.cell (p := ⟨rb, 1, none⟩) hlt]; exact h.c1
  · rw [hb.frozen (p := ⟨rb, 0, none⟩) hlt]; exact h.z0
  · rw [hb.frozen (p := ⟨rb, 1, none⟩) hlt]; exact h.z1
  · obtain ⟨h1, h2 | ⟨g, cap, cur, e1, e2, e3, e4⟩⟩ := h.own
    · exact ⟨h1, .inl h2⟩
    · exact ⟨h1, .inr ⟨g, cap, cur, e1, e2, (hb.block g (Array.getElem?_eq_some_iff.1 e3).1).trans e3, e4⟩⟩
theorem Kept.of_below {rb base : Nat} (h : rb < base) {w w' : World} (hs : base ≤ w.heap.size) (hb : Below w.heap.size w w') : Kept rb base w w' := (Kept.refl h w).full hs hb

set_option maxRecDepth 100000 in
set_option maxHeartbeats 1000000 in
theorem join_no (p : Value) (s : ByteArray) (n : Int) (w : World) (hr : right s.data.toList n = false) (hs : s.size * 8 ≤ 9223372036854775807) (hn1 : -9223372036854775808 ≤ n) (hn2 : n ≤ 9223372036854775807) :
    Calls Try.prog 48 #[p, .agg #[.string s, .int .i64 n]] w fun e w' => e = .panicked (up 1) ∧ Below w.heap.size w w' := by
  go_enter Try.func48, Try.ntmps48
  go_wp2_with fail
  refine (right_at s n _ hs hn1 hn2).mono ?_
  rintro e w1 ⟨rfl, hb1⟩
  rw [hr]
  have Hb1 := Lib.hid hb1
  clear hb1
  go_wp2_with fail
  refine (need_no 1 _).mono ?_
  rintro e w2 ⟨rfl, rfl⟩
  go_wp2
  exact ⟨rfl, rfl, ((Below.refl w.heap.size w).alloc (Nat.le_refl _) _).trans (Hb1.out.mono (by simp))⟩
set_option maxRecDepth 100000 in
set_option maxHeartbeats 1000000 in
theorem join_at (rb base : Nat) (l b : List Bool) (s : Value) (w : World) (hR : RowAt w rb base l s) (hl : l.length + b.length ≤ 1000000000000000) :
    Calls Try.prog 48 #[.pointer (some ⟨rb, 0, none⟩), .agg #[.string (pack b), .int .i64 (b.length : Int)]] w fun e w' => e = .returned (.tuple #[]) ∧ (∃ s', RowAt w' rb base (l ++ b) s') ∧ Kept rb base w w' := by
  go_enter Try.func48, Try.ntmps48
  go_wp2_with fail
  refine (right_ok b _ (by omega)).mono ?_
  rintro e w1 ⟨rfl, hb1⟩
  have Hb1 := Lib.hid hb1
  clear hb1
  go_wp2_with fail
  refine (need_ok 1 _).mono ?_
  rintro e w2 ⟨rfl, rfl⟩
  have hc0 : w1.cell? ⟨w.heap.size, 0, none⟩ = some (.string (pack b)) := by rw [Hb1.out.cell (by simp)]; simp
  have hc1 : w1.cell? ⟨w.heap.size, 1, none⟩ = some (.int .i64 (b.length : Int)) := by rw [Hb1.out.cell (by simp)]; simp
  have hB : Below w.heap.size w w1 := ((Below.refl w.heap.size w).alloc (Nat.le_refl _) _).trans (Hb1.out.mono (by simp))
  have hR1 := hR.below hB
  have Hk1 := Lib.hid (Kept.of_below hR.lt hR.le hB)
  have Hs1 : Hid (w.heap.size < w1.heap.size) := Nat.lt_of_lt_of_le (by simp) Hb1.out.size
  have Hn1 : Hid (NotBytes w1 w.heap.size) := (by
    intro c f
    rw [Hb1.out.block _ (by simp), heap_alloc_new]
    simp : NotBytes w1 w.heap.size)
  have HR1 := Lib.hid hR1
  have Hlb : Hid (w.heap.size ≠ rb ∧ base ≤ w.heap.size ∧ rb < base) := (⟨by have := hR.lt; have := hR.le; omega, hR.le, hR.lt⟩ : _ ∧ _ ∧ _)
  clear Hb1 hB hR1 hR
  go_wp2
  go_loopw [4, 5] (fun kv _ wr => ∃ j : Nat, kv = .int .i64 ((64 * j : Nat) : Int) ∧ 64 * j < b.length + 64 ∧ (∃ s', RowAt wr rb base (l ++ bitsAt (enc b) 0 (min (64 * j) b.length)) s') ∧ Kept rb base w1 wr) (fun kv _ _ => b.length + 64 - (intOf kv).toNat)
  case atStart => exact ⟨0, rfl, by omega, ⟨s, by simpa [bitsAt] using HR1.out⟩, Kept.refl Hlb.out.2.2 _⟩
  case round =>
    obtain ⟨j, rfl, hj, ⟨s', hr⟩, hk⟩ := hrel
    have Hr := Lib.hid hr
    have Hk := Lib.hid hk
    have d0 : wr.cell? ⟨w.heap.size, 0, none⟩ = some (.string (pack b)) := by rw [hk.cell Hlb.out.1 (.inr ⟨Hs1.out, Hn1.out⟩)]; exact hc0
    have d1 : wr.cell? ⟨w.heap.size, 1, none⟩ = some (.int .i64 (b.length : Int)) := by rw [hk.cell Hlb.out.1 (.inr ⟨Hs1.out, Hn1.out⟩)]; exact hc1
    clear hr hk
    obtain ⟨k, hk⟩ : ∃ k, 64 * j = k := ⟨_, rfl⟩
    rw [hk] at Hr hj ⊢
    by_cases hlt : k < b.length
    · obtain ⟨r, hr⟩ : ∃ r, b.length - k = r := ⟨_, rfl⟩
      have hX : (b.length : Int) - (k : Int) = (r : Int) := by omega
      go_wp2_with (refine Kit.wpList_min rfl (.const (.int .i64 64)) (.tmp 18) 3 rfl 64 r rfl rfl ?_; intro n hn1 hn2 hn3)
      have hps : (pack b).size = (b.length + 7) / 8 := pack_size b
      refine (take_at (pack b) _ _ k n _ rfl rfl (by omega) (by omega) (by omega)).mono ?_
      rintro e w3 ⟨rfl, hdr⟩
      rw [pack_list]
      have hRr := (Hr.out.below (hdr.below _))
      have hlen : (l ++ bitsAt (enc b) 0 (min k b.length)).length = l.length + k := by rw [List.length_append, bitsAt_len]; omega
      go_wp2_with fail
      refine (lay_at rb base _ _ _ _ _ n _ hRr rfl rfl ?_ (by omega) (by rw [hlen]; omega)).mono ?_
      · refine Nat.lt_of_lt_of_le (val_lt _) ?_
        rw [bitsAt_len]
        exact Nat.pow_le_pow_right (by omega) (by omega)
      rintro e w4 ⟨rfl, ⟨s4, hR4⟩, hk4⟩
      have hR5 : Hid (RowAt w4 rb base (l ++ bitsAt (enc b) 0 (min (k + n) b.length)) s4) := by
        have e1 : num (val (bitsAt (enc b) k n)) n = bitsAt (enc b) k n := by
          have := num_val (bitsAt (enc b) k n)
          rwa [bitsAt_len] at this
        rw [e1, List.append_assoc] at hR4
        have e2 := bitsAt_split (enc b) 0 k n
        rw [Nat.zero_add] at e2
        rw [show min k b.length = k by omega, ← e2] at hR4
        rw [show min (k + n) b.length = k + n by omega]
        exact hR4
      have Hk4 : Hid (Kept rb base w1 w4) := (Hk.out.full Hr.out.le (hdr.below _)).trans hk4
      clear hR4 hk4 hRr hdr
      go_wp2
      go_roundw
      case rel =>
        refine ⟨j + 1, ?_, by omega, ⟨s4, ?_⟩, Hk4.out⟩
        · congr 1; omega
        · rw [show min (64 * (j + 1)) b.length = min (k + n) b.length by omega]; exact hR5.out
      case measure => simp [intOf]; omega
    · go_wp2
      go_end0
      refine ⟨rfl, ⟨s', ?_⟩, Hk1.out.trans Hk.out⟩
      have := Hr.out
      rwa [show min k b.length = b.length by omega, bitsAt_enc0] at this
set_option maxRecDepth 100000 in
set_option maxHeartbeats 1000000 in
theorem rowbits_at (rb base : Nat) (l : List Bool) (s : Value) (w : World) (hR : RowAt w rb base l s) :
    Calls Try.prog 60 #[.pointer (some ⟨rb, 0, none⟩)] w fun e w' => e = .returned (.agg #[.string (pack l), .int .i64 (l.length : Int)]) ∧ Below w.heap.size w w' := by
  have hc0 := hR.c0
  have hc1 := hR.c1
  have hlt : rb < w.heap.size := Nat.lt_of_lt_of_le hR.lt hR.le
  have hne : ¬ rb = w.heap.size := by omega
  have hne2 : ¬ w.heap.size = rb := by omega
  have HR := Lib.hid hR
  clear hR
  go_enter Try.func60, Try.ntmps60
  go_wp2
  obtain ⟨W, hW⟩ : ∃ W, w.alloc (.cells #[.string ⟨#[]⟩, .int .i64 0] 40) = W := ⟨_, rfl⟩
  have a0 : W.cell? ⟨w.heap.size, 0, none⟩ = some (.string ⟨#[]⟩) := by rw [← hW]; simp
  have a1 : W.cell? ⟨w.heap.size, 1, none⟩ = some (.int .i64 0) := by rw [← hW]; simp
  have f0 : W.frozen? ⟨w.heap.size, 0, none⟩ = false := by rw [← hW]; simp
  have f1 : W.frozen? ⟨w.heap.size, 1, none⟩ = false := by rw [← hW]; simp
  have hB : Below w.heap.size w W := by rw [← hW]; exact (Below.refl _ _).alloc (Nat.le_refl _) _
  have c0 : W.cell? ⟨rb, 0, none⟩ = some s := by rw [hB.cell hlt]; exact hc0
  have c1 : W.cell? ⟨rb, 1, none⟩ = some (.int .i64 (l.length : Int)) := by rw [hB.cell hlt]; exact hc1
  have hself : W.drew = (W.drew.setCell ⟨w.heap.size, 0, none⟩ (.string ⟨#[]⟩)).setCell ⟨w.heap.size, 1, none⟩ (.int .i64 0) := by
    rw [Sched.setCell_self (w := W.drew) (by simpa using a0), Sched.setCell_self (w := W.drew) (by simpa using a1)]
  rw [hW]
  have HB := Lib.hid hB
  clear hc0 hc1 hW hB
  refine Sched.region_mid (fun w' => ∃ u : Nat → Value, w' = (W.drew.setCell ⟨w.heap.size, 0, none⟩ (u 0)).setCell ⟨w.heap.size, 1, none⟩ (u 1)) [0, 1, 2, 3, 4, 5, 6, 7, 8, 9] [] 10 ⟨fun n => if n = 0 then .string ⟨#[]⟩ else .int .i64 0, hself⟩ (by kernel_rfl) (by kernel_rfl) ?_
  clear hself
  simp only [Sched.pick_cons, Sched.pick_nil, Sched.at_succ, Sched.at_zero]
  iterate 4 (go_big_quiet_want; go_big_quiet_op; go_big_quiet_on)
  go_big_quiet_want
  refine Kit.quiet_to_string 92 9 5 (.tmp 6) rfl Try.underlying92 Try.underlying5 Try.underlying9 s (enc l).length (enc l) rfl ?_ ?_
  · rintro w' ⟨u, rfl⟩
    refine ((Kit.Sl.own HR.out.own).below ?_)
    exact ((HB.out.drew).setCell (p := ⟨w.heap.size, 0, none⟩) (Nat.le_refl _) (u 0)).setCell (p := ⟨w.heap.size, 1, none⟩) (Nat.le_refl _) (u 1)
  simp only [Act.put, List.setIfInBounds_toArray, List.set_cons_succ, List.set_cons_zero]
  go_big_quiet_on
  iterate 5 (go_big_quiet_want; go_big_quiet_op; go_big_quiet_on)
  refine wpQuiet_nil ?_
  refine wpQuiet_nil ?_
  go_wp2
  refine ⟨⟨fun n => if n = 0 then .string (pack l) else .int .i64 (l.length : Int), rfl⟩, ?_⟩
  refine NoPanic.normal ?_
  go_wp2
  refine bodyPost_ret (v := .agg #[.string (pack l), .int .i64 (l.length : Int)]) (by simp [results, Try.results60, go_sem, a0, a1]; rfl) rfl ⟨rfl, ?_⟩
  exact ((HB.out.drew).setCell (p := ⟨w.heap.size, 0, none⟩) (Nat.le_refl _) _).setCell (p := ⟨w.heap.size, 1, none⟩) (Nat.le_refl _) _
end Bt
end Go.Proofs.Ytdcenocljnlipaa

namespace Go.Proofs.Ytdcenocljnlipaa
open Go.RowKit
namespace Bt
open Bm
def bv (l : List Bool) : Value := .agg #[.string (pack l), .int .i64 (l.length : Int)]
def noBits : Value := .agg #[.string ⟨#[]⟩, .int .i64 0]
/-- the world in which grown's function is called -/
def gw (f : Value) (w : World) : World := ((w.alloc (.cells #[f] 77)).alloc (.cells #[.string ⟨#[]⟩, .int .i64 0] 40)).alloc (.cells #[.slice none 0 0, .int .i64 0] 94)
theorem gw_size (f : Value) (w : World) : (gw f w).heap.size = w.heap.size + 3 := by simp [gw]
theorem new_cell {w : World} {cs : Array Value} {t : TypeId} {b j : Nat} (h : b = w.heap.size) : (w.alloc (.cells cs t)).cell? ⟨b, j, none⟩ = cs[j]? := by
  subst h
  have : (w.alloc (.cells cs t)).heap[w.heap.size]? = some (.cells cs t (0, 0)) := heap_alloc_new _ _
  unfold World.cell?
  simp only
  rw [this]
  simp
theorem new_frozen {w : World} {cs : Array Value} {t : TypeId} {b j : Nat} (h : b = w.heap.size) : (w.alloc (.cells cs t)).frozen? ⟨b, j, none⟩ = false := by
  subst h
  have : (w.alloc (.cells cs t)).heap[w.heap.size]? = some (.cells cs t (0, 0)) := heap_alloc_new _ _
  unfold World.frozen?
  simp only
  rw [this]
  simp
theorem old_cell {w : World} {o : Obj} {p : Addr} (h : p.block < w.heap.size) : (w.alloc o).cell? p = w.cell? p := ((Below.refl w.heap.size w).alloc (Nat.le_refl _) o).cell h
theorem old_frozen {w : World} {o : Obj} {p : Addr} (h : p.block < w.heap.size) : (w.alloc o).frozen? p = w.frozen? p := ((Below.refl w.heap.size w).alloc (Nat.le_refl _) o).frozen h
theorem gw_below (f : Value) (w : World) : Below w.heap.size w (gw f w) :=
  (((Below.refl w.heap.size w).alloc (Nat.le_refl _) _).alloc (by simp) _).alloc (by simp; omega) _
theorem gw_row (f : Value) (w : World) : RowAt (made (gw f w)) (w.heap.size + 2) (w.heap.size + 4) [] (.slice none 0 0) := by
  have hs := gw_size f w
  refine ⟨by omega, by simp [made, gw_size], ?_, ?_, ?_, ?_, World.ownsRow_nil _ _ _ _⟩
  · rw [made, old_cell (by rw [hs]; simp), gw, new_cell (by simp)]; rfl
  · rw [made, old_cell (by rw [hs]; simp), gw, new_cell (by simp)]; rfl
  · rw [made, old_frozen (by rw [hs]; simp), gw, new_frozen (by simp)]
  · rw [made, old_frozen (by rw [hs]; simp), gw, new_frozen (by simp)]
theorem RowAt.other {w : World} {rb base : Nat} {l : List Bool} {v : Value} (h : RowAt w rb base l v) {k off : Nat} (h1 : k ≠ rb) (h2 : k < base) (u : Value) : RowAt (w.setCell ⟨k, off, none⟩ u) rb base l v := by
  refine ⟨h.lt, by simpa using h.le, ?_, ?_, by simpa using h.z0, by simpa using h.z1, ownsRow_setCell_below h.own (a := ⟨k, off, none⟩) h2 u⟩
  · rw [World.cell?_setCell_other _ _ _ _ (by simp [])]; exact h.c0
  · rw [World.cell?_setCell_other _ _ _ _ (by simp [])]; exact h.c1
set_option maxRecDepth 100000 in
set_option maxHeartbeats 1000000 in
theorem grown1_at (K : FuncId) (cap : Array Value) (p q : Addr) (w : World) (R : Ending → World → Prop) (hc : w.cell? p = some (.func (.func K) #[] cap)) (hent : ∀ args, ∀ w : World, (callFunc K args).run Try.prog w = .ok (.enter K args) w)
    (hcall : Calls Try.prog K (#[.pointer (some q)] ++ cap) w R) (hR : ∀ e w', R e w' → (∃ v, e = .panicked v) ∨ e = .returned (.tuple #[])) :
    Calls Try.prog 59 #[.pointer (some p), .pointer (some q)] w R := by
  go_enter Try.func59, Try.ntmps59
  go_wp2
  refine hcall.mono ?_
  intro e w' hr
  rcases hR e w' hr with ⟨v, rfl⟩ | rfl
  · go_wp2
    exact ⟨rfl, hr⟩
  · go_wp2
    go_end0
    exact hr
set_option maxRecDepth 100000 in
set_option maxHeartbeats 1000000 in
theorem grown_ok (K : FuncId) (cap : Array Value) (l : List Bool) (w : World) (hent : ∀ args, ∀ w : World, (callFunc K args).run Try.prog w = .ok (.enter K args) w)
    (hcall : Calls Try.prog K (#[.pointer (some ⟨w.heap.size + 2, 0, none⟩)] ++ cap) (made (gw (.func (.func K) #[] cap) w)) fun e w' => e = .returned (.tuple #[]) ∧ (∃ s', RowAt w' (w.heap.size + 2) (w.heap.size + 4) l s') ∧ Kept (w.heap.size + 2) (w.heap.size + 4) (made (gw (.func (.func K) #[] cap) w)) w') :
    Calls Try.prog 46 #[.func (.func K) #[] cap] w fun e w' => e = .returned (.tuple #[bv l, .int .i64 0]) ∧ Below w.heap.size w w' := by
  have hmf : ∀ (fn : Fn) (first cap : Array Value) (w : World), (Instr.makeFunc fn first cap).run Try.prog w = .ok (.func fn first cap) w := fun _ _ _ _ => rfl
  have hs := gw_size (.func (.func K) #[] cap) w
  have hlay : (made (gw (.func (.func K) #[] cap) w)).cell? ⟨w.heap.size, 0, none⟩ = some (.func (.func K) #[] cap) := by
    rw [made, old_cell (by rw [hs]; simp), gw, old_cell (by simp; omega), old_cell (by simp), new_cell rfl]; rfl
  have h1 := grown1_at K cap ⟨w.heap.size, 0, none⟩ ⟨w.heap.size + 2, 0, none⟩ _ _ hlay hent hcall (fun e w' h => .inr h.1)
  have hsz : (gw (.func (.func K) #[] cap) w).heap.size = w.heap.size + 3 := hs
  have hcell : (made (gw (.func (.func K) #[] cap) w)).cell? ⟨w.heap.size + 3, 0, none⟩ = some (.int .i64 0) := by
    rw [made, new_cell hs.symm]; rfl
  have hfro : (made (gw (.func (.func K) #[] cap) w)).frozen? ⟨w.heap.size + 3, 0, none⟩ = false := by
    rw [made, new_frozen hs.symm]
  have h2 := caught_ret 59 #[.pointer (some ⟨w.heap.size, 0, none⟩), .pointer (some ⟨w.heap.size + 2, 0, none⟩)] (gw (.func (.func K) #[] cap) w) _ (fun _ => by kernel_rfl) h1 (by
    rintro w' ⟨⟨s', hr⟩, hk⟩
    rw [hs]
    refine ⟨?_, ?_, ?_⟩
    · rw [hk.cell (by simp) (.inl (by simp))]; exact hcell
    · rw [hk.frozen (by simp) (.inl (by simp))]; exact hfro
    · have := hr.le; omega)
  have H2 := Lib.hid h2
  have d0 : (made (gw (.func (.func K) #[] cap) w)).cell? ⟨w.heap.size + 1, 0, none⟩ = some (.string ⟨#[]⟩) := by
    rw [made, old_cell (by rw [hs]; simp), gw, old_cell (by simp), new_cell (by simp)]; rfl
  have d1 : (made (gw (.func (.func K) #[] cap) w)).cell? ⟨w.heap.size + 1, 1, none⟩ = some (.int .i64 0) := by
    rw [made, old_cell (by rw [hs]; simp), gw, old_cell (by simp), new_cell (by simp)]; rfl
  have e0 : (made (gw (.func (.func K) #[] cap) w)).frozen? ⟨w.heap.size + 1, 0, none⟩ = false := by
    rw [made, old_frozen (by rw [hs]; simp), gw, old_frozen (by simp), new_frozen (by simp)]
  have e1 : (made (gw (.func (.func K) #[] cap) w)).frozen? ⟨w.heap.size + 1, 1, none⟩ = false := by
    rw [made, old_frozen (by rw [hs]; simp), gw, old_frozen (by simp), new_frozen (by simp)]
  clear h1 h2 hlay hcall hcell hfro
  go_enter Try.func46, Try.ntmps46
  go_wp2_with fail
  refine H2.out.mono ?_
  rintro e w2 ⟨rfl, w1, ⟨⟨s', hr⟩, hk⟩, hb⟩
  rw [hs] at hb
  have hr2 : RowAt w2 (w.heap.size + 2) (w.heap.size + 4) l s' := (hr.other (k := w.heap.size + 3) (off := 0) (by omega) (by omega) (.int .i64 0)).below (by simpa using hb)
  have hle := hr.le
  have old : ∀ off, w2.cell? ⟨w.heap.size + 1, off, none⟩ = (made (gw (.func (.func K) #[] cap) w)).cell? ⟨w.heap.size + 1, off, none⟩ ∧ w2.frozen? ⟨w.heap.size + 1, off, none⟩ = (made (gw (.func (.func K) #[] cap) w)).frozen? ⟨w.heap.size + 1, off, none⟩ := by
    intro off
    constructor
    · rw [hb.cell (p := ⟨w.heap.size + 1, off, none⟩) (by simp; omega), World.cell?_setCell_other _ _ _ _ (by simp), hk.cell (by simp) (.inl (by simp))]
    · rw [hb.frozen (p := ⟨w.heap.size + 1, off, none⟩) (by simp; omega), World.frozen?_setCell, hk.frozen (by simp) (.inl (by simp))]
  have hB2 : Below w.heap.size w w2 := ((((gw_below (.func (.func K) #[] cap) w).alloc (by rw [hs]; omega) _).trans (hk.2.1.mono (by omega))).setCell (p := ⟨w.heap.size + 3, 0, none⟩) (by simp) _).trans (hb.mono (by omega))
  have HB2 := Lib.hid hB2
  have Hr2 := Lib.hid hr2
  have Hold := Lib.hid old
  have Hle2 : Hid (w.heap.size + 4 ≤ w2.heap.size) := hr2.le
  have Hd : Hid (_ ∧ _ ∧ _ ∧ _) := ⟨d0, d1, e0, e1⟩
  clear hr hk hb hr2 hle old hB2 d0 d1 e0 e1 hs hsz
  go_wp2_with fail
  refine (rowbits_at _ _ l s' w2 Hr2.out).mono ?_
  rintro e w3 ⟨rfl, hb3⟩
  have hle2 := Hle2.out
  have a0 : w3.cell? ⟨w.heap.size + 1, 0, none⟩ = some (.string ⟨#[]⟩) := by rw [hb3.cell (by simp; omega), (Hold.out 0).1]; exact Hd.out.1
  have a1 : w3.cell? ⟨w.heap.size + 1, 1, none⟩ = some (.int .i64 0) := by rw [hb3.cell (by simp; omega), (Hold.out 1).1]; exact Hd.out.2.1
  have f0 : w3.frozen? ⟨w.heap.size + 1, 0, none⟩ = false := by rw [hb3.frozen (by simp; omega), (Hold.out 0).2]; exact Hd.out.2.2.1
  have f1 : w3.frozen? ⟨w.heap.size + 1, 1, none⟩ = false := by rw [hb3.frozen (by simp; omega), (Hold.out 1).2]; exact Hd.out.2.2.2
  have HB3 : Hid (Below w.heap.size w w3) := HB2.out.trans (hb3.mono (by omega))
  clear hb3 Hold Hd
  go_wp2
  refine bodyPost_ret (v := .tuple #[bv l, .int .i64 0]) (by simp [results, Try.results46, go_sem, a0, a1, bv]) rfl ⟨rfl, ?_⟩
  exact (HB3.out.setCell (p := ⟨w.heap.size + 1, 0, none⟩) (by simp) _).setCell (p := ⟨w.heap.size + 1, 1, none⟩) (by simp) _
set_option maxRecDepth 100000 in
set_option maxHeartbeats 1000000 in
theorem grown_up (K : FuncId) (cap : Array Value) (x : Int) (w : World) (hx : x = 1 ∨ x = 2) (hent : ∀ args, ∀ w : World, (callFunc K args).run Try.prog w = .ok (.enter K args) w)
    (hcall : Calls Try.prog K (#[.pointer (some ⟨w.heap.size + 2, 0, none⟩)] ++ cap) (made (gw (.func (.func K) #[] cap) w)) fun e w' => e = .panicked (up x) ∧ Kept (w.heap.size + 2) (w.heap.size + 4) (made (gw (.func (.func K) #[] cap) w)) w') :
    Calls Try.prog 46 #[.func (.func K) #[] cap] w fun e w' => e = .returned (.tuple #[noBits, .int .i64 x]) ∧ Below w.heap.size w w' := by
  have hmf : ∀ (fn : Fn) (first cap : Array Value) (w : World), (Instr.makeFunc fn first cap).run Try.prog w = .ok (.func fn first cap) w := fun _ _ _ _ => rfl
  have hs := gw_size (.func (.func K) #[] cap) w
  have hlay : (made (gw (.func (.func K) #[] cap) w)).cell? ⟨w.heap.size, 0, none⟩ = some (.func (.func K) #[] cap) := by
    rw [made, old_cell (by rw [hs]; simp), gw, old_cell (by simp; omega), old_cell (by simp), new_cell rfl]; rfl
  have h1 := grown1_at K cap ⟨w.heap.size, 0, none⟩ ⟨w.heap.size + 2, 0, none⟩ _ _ hlay hent hcall (fun e w' h => .inl ⟨_, h.1⟩)
  have hcell : (made (gw (.func (.func K) #[] cap) w)).cell? ⟨w.heap.size + 3, 0, none⟩ = some (.int .i64 0) := by
    rw [made, new_cell hs.symm]; rfl
  have hfro : (made (gw (.func (.func K) #[] cap) w)).frozen? ⟨w.heap.size + 3, 0, none⟩ = false := by
    rw [made, new_frozen hs.symm]
  have h2 := caught_up 59 #[.pointer (some ⟨w.heap.size, 0, none⟩), .pointer (some ⟨w.heap.size + 2, 0, none⟩)] x (gw (.func (.func K) #[] cap) w) _ (fun _ => by kernel_rfl) h1 (by
    intro w' hk
    rw [hs]
    refine ⟨?_, ?_, ?_⟩
    · rw [hk.cell (by simp) (.inl (by simp))]; exact hcell
    · rw [hk.frozen (by simp) (.inl (by simp))]; exact hfro
    · have := hk.size; rw [made] at this; simp [hs] at this; omega)
  have H2 := Lib.hid h2
  have d0 : (made (gw (.func (.func K) #[] cap) w)).cell? ⟨w.heap.size + 1, 0, none⟩ = some (.string ⟨#[]⟩) := by
    rw [made, old_cell (by rw [hs]; simp), gw, old_cell (by simp), new_cell (by simp)]; rfl
  have d1 : (made (gw (.func (.func K) #[] cap) w)).cell? ⟨w.heap.size + 1, 1, none⟩ = some (.int .i64 0) := by
    rw [made, old_cell (by rw [hs]; simp), gw, old_cell (by simp), new_cell (by simp)]; rfl
  have e0 : (made (gw (.func (.func K) #[] cap) w)).frozen? ⟨w.heap.size + 1, 0, none⟩ = false := by
    rw [made, old_frozen (by rw [hs]; simp), gw, old_frozen (by simp), new_frozen (by simp)]
  have e1 : (made (gw (.func (.func K) #[] cap) w)).frozen? ⟨w.heap.size + 1, 1, none⟩ = false := by
    rw [made, old_frozen (by rw [hs]; simp), gw, old_frozen (by simp), new_frozen (by simp)]
  have hxn : (x != 0) = true := by rcases hx with rfl | rfl <;> rfl
  clear h1 h2 hlay hcall hcell hfro
  go_enter Try.func46, Try.ntmps46
  go_wp2_with fail
  refine H2.out.mono ?_
  rintro e w3 ⟨rfl, w1, hk, hb⟩
  rw [hs] at hb
  have old : ∀ off, w3.cell? ⟨w.heap.size + 1, off, none⟩ = (made (gw (.func (.func K) #[] cap) w)).cell? ⟨w.heap.size + 1, off, none⟩ ∧ w3.frozen? ⟨w.heap.size + 1, off, none⟩ = (made (gw (.func (.func K) #[] cap) w)).frozen? ⟨w.heap.size + 1, off, none⟩ := by
    intro off
    constructor
    · rw [hb.cell (p := ⟨w.heap.size + 1, off, none⟩) (by simp), hk.cell (by simp) (.inl (by simp))]
    · rw [hb.frozen (p := ⟨w.heap.size + 1, off, none⟩) (by simp), hk.frozen (by simp) (.inl (by simp))]
  have hB3 : Below w.heap.size w w3 := (((gw_below (.func (.func K) #[] cap) w).alloc (by rw [hs]; omega) _).trans (hk.2.1.mono (by omega))).trans (hb.mono (by omega))
  have HB3 := Lib.hid hB3
  have a0 : w3.cell? ⟨w.heap.size + 1, 0, none⟩ = some (.string ⟨#[]⟩) := by rw [(old 0).1]; exact d0
  have a1 : w3.cell? ⟨w.heap.size + 1, 1, none⟩ = some (.int .i64 0) := by rw [(old 1).1]; exact d1
  have f0 : w3.frozen? ⟨w.heap.size + 1, 0, none⟩ = false := by rw [(old 0).2]; exact e0
  have f1 : w3.frozen? ⟨w.heap.size + 1, 1, none⟩ = false := by rw [(old 1).2]; exact e1
  clear hk hb old hB3 d0 d1 e0 e1 hs
  go_wp2
  refine bodyPost_ret (v := .tuple #[noBits, .int .i64 x]) (by simp [results, Try.results46, go_sem, a0, a1, noBits]) rfl ⟨rfl, ?_⟩
  exact (HB3.out.setCell (p := ⟨w.heap.size + 1, 0, none⟩) (by simp) _).setCell (p := ⟨w.heap.size + 1, 1, none⟩) (by simp) _
end Bt
end Go.Proofs.Ytdcenocljnlipaa

namespace Go.Proofs.Ytdcenocljnlipaa
open Go.RowKit
namespace Bt
open Bm
set_option maxRecDepth 100000 in
set_option maxHeartbeats 1000000 in
theorem put1_ok (rb base pb pn pv : Nat) (b : List Bool) (v n : Nat) (s : Value) (w : World) (hR : RowAt w rb base [] s)
    (_hb : pb < base ∧ pb ≠ rb) (hn : pn < base ∧ pn ≠ rb) (hv : pv < base ∧ pv ≠ rb)
    (cb0 : w.cell? ⟨pb, 0, none⟩ = some (.string (pack b))) (cb1 : w.cell? ⟨pb, 1, none⟩ = some (.int .i64 (b.length : Int)))
    (cn : w.cell? ⟨pn, 0, none⟩ = some (.int .i64 (n : Int))) (cv : w.cell? ⟨pv, 0, none⟩ = some (.int .u64 (v : Int)))
    (hv64 : v < 2 ^ 64) (hn64 : n ≤ 64) (hl : b.length ≤ 100000000000000) :
    Calls Try.prog 47 #[.pointer (some ⟨rb, 0, none⟩), .pointer (some ⟨pb, 0, none⟩), .pointer (some ⟨pn, 0, none⟩), .pointer (some ⟨pv, 0, none⟩)] w fun e w' =>
      e = .returned (.tuple #[]) ∧ (∃ s', RowAt w' rb base (b ++ num v n) s') ∧ Kept rb base w w' := by
  have hn64' : (n : Int) ≤ 64 := by omega
  go_enter Try.func47, Try.ntmps47
  go_wp2_with fail
  refine (join_at rb base [] b s w hR (by simp; omega)).mono ?_
  rintro e w1 ⟨rfl, ⟨s1, hr1⟩, hk1⟩
  have dn : w1.cell? ⟨pn, 0, none⟩ = some (.int .i64 (n : Int)) := by rw [hk1.cell hn.2 (.inl hn.1)]; exact cn
  have dv : w1.cell? ⟨pv, 0, none⟩ = some (.int .u64 (v : Int)) := by rw [hk1.cell hv.2 (.inl hv.1)]; exact cv
  have Hk1 := Lib.hid hk1
  have Hr1 := Lib.hid hr1
  clear hk1 hr1
  go_wp2_with fail
  refine (need_ok 1 _).mono ?_
  rintro e w2 ⟨rfl, rfl⟩
  go_wp2_with fail
  refine (lay_at rb base b s1 _ _ v n w1 Hr1.out rfl rfl hv64 hn64 (by omega)).mono ?_
  rintro e w3 ⟨rfl, hs3, hk3⟩
  have Hs3 := Lib.hid hs3
  have Hk3 := Lib.hid (Hk1.out.trans hk3)
  clear hs3 hk3
  go_wp2
  go_end0
  exact ⟨rfl, Hs3.out, Hk3.out⟩
set_option maxRecDepth 100000 in
set_option maxHeartbeats 1000000 in
theorem put1_arg (rb base pb pn pv : Nat) (b : List Bool) (n : Int) (s : Value) (w : World) (hR : RowAt w rb base [] s)
    (_hb : pb < base ∧ pb ≠ rb) (hn : pn < base ∧ pn ≠ rb)
    (cb0 : w.cell? ⟨pb, 0, none⟩ = some (.string (pack b))) (cb1 : w.cell? ⟨pb, 1, none⟩ = some (.int .i64 (b.length : Int)))
    (cn : w.cell? ⟨pn, 0, none⟩ = some (.int .i64 n)) (h : n < 0 ∨ 64 < n) (hl : b.length ≤ 100000000000000) :
    Calls Try.prog 47 #[.pointer (some ⟨rb, 0, none⟩), .pointer (some ⟨pb, 0, none⟩), .pointer (some ⟨pn, 0, none⟩), .pointer (some ⟨pv, 0, none⟩)] w fun e w' =>
      e = .panicked (up 1) ∧ Kept rb base w w' := by
  by_cases h0 : n < 0
  · have h0' : decide (0 ≤ n) = false := by simpa using h0
    have H0 := Lib.hid h0
    clear h0 h
    go_enter Try.func47, Try.ntmps47
    go_wp2_with fail
    refine (join_at rb base [] b s w hR (by simp; omega)).mono ?_
    rintro e w1 ⟨rfl, ⟨s1, hr1⟩, hk1⟩
    have dn : w1.cell? ⟨pn, 0, none⟩ = some (.int .i64 n) := by rw [hk1.cell hn.2 (.inl hn.1)]; exact cn
    have Hk1 := Lib.hid hk1
    clear hk1 hr1
    go_wp2_with fail
    refine (need_no 1 _).mono ?_
    rintro e w2 ⟨rfl, rfl⟩
    go_wp2
    exact ⟨rfl, rfl, Hk1.out⟩
  · have h1 : decide (0 ≤ n) = true := by simpa using h0
    have h2 : decide (n ≤ 64) = false := by simp; omega
    have H0 := Lib.hid h0
    clear h0 h
    go_enter Try.func47, Try.ntmps47
    go_wp2_with fail
    refine (join_at rb base [] b s w hR (by simp; omega)).mono ?_
    rintro e w1 ⟨rfl, ⟨s1, hr1⟩, hk1⟩
    have dn : w1.cell? ⟨pn, 0, none⟩ = some (.int .i64 n) := by rw [hk1.cell hn.2 (.inl hn.1)]; exact cn
    have Hk1 := Lib.hid hk1
    clear hk1 hr1
    go_wp2_with fail
    refine (need_no 1 _).mono ?_
    rintro e w2 ⟨rfl, rfl⟩
    go_wp2
    exact ⟨rfl, rfl, Hk1.out⟩
set_option maxRecDepth 100000 in
set_option maxHeartbeats 1000000 in
theorem put1_no (rb base pb : Nat) (t : ByteArray) (m : Int) (pn pv : Value) (s : Value) (w : World) (hR : RowAt w rb base [] s)
    (cb0 : w.cell? ⟨pb, 0, none⟩ = some (.string t)) (cb1 : w.cell? ⟨pb, 1, none⟩ = some (.int .i64 m))
    (hr : right t.data.toList m = false) (hs : t.size * 8 ≤ 9223372036854775807) (hn1 : -9223372036854775808 ≤ m) (hn2 : m ≤ 9223372036854775807) :
    Calls Try.prog 47 #[.pointer (some ⟨rb, 0, none⟩), .pointer (some ⟨pb, 0, none⟩), pn, pv] w fun e w' =>
      e = .panicked (up 1) ∧ Kept rb base w w' := by
  go_enter Try.func47, Try.ntmps47
  go_wp2_with fail
  refine (join_no _ t m w hr hs hn1 hn2).mono ?_
  rintro e w1 ⟨rfl, hb1⟩
  have Hb1 := Lib.hid hb1
  clear hb1
  go_wp2
  exact ⟨rfl, rfl, Kept.of_below hR.lt hR.le Hb1.out⟩
/-- the world in which Put calls grown -/
def pw (t : ByteArray) (m v n : Int) (w : World) : World := (((w.alloc (.cells #[.string t, .int .i64 m] 40)).alloc (.cells #[.int .u64 v] 51)).alloc (.cells #[.int .i64 n] 3)).alloc (.cells #[.string ⟨#[]⟩, .int .i64 0] 40)
set_option maxRecDepth 100000 in
set_option maxHeartbeats 1000000 in
theorem put_frame (t : ByteArray) (m v n : Int) (x : Int) (u0 u1 : Value) (w : World)
    (hg : Calls Try.prog 46 #[.func (.func 47) #[] #[.pointer (some ⟨w.heap.size, 0, none⟩), .pointer (some ⟨w.heap.size + 2, 0, none⟩), .pointer (some ⟨w.heap.size + 1, 0, none⟩)]] (pw t m v n w) fun e w' => e = .returned (.tuple #[.agg #[u0, u1], .int .i64 x]) ∧ Below (pw t m v n w).heap.size (pw t m v n w) w')
    (hu0 : ∃ t', u0 = .string t') (hu1 : ∃ n', u1 = .int .i64 n') :
    Calls Try.prog 36 #[.agg #[.string t, .int .i64 m], .int .u64 v, .int .i64 n] w fun e w' => e = .returned (.tuple #[.agg #[u0, u1], .int .i64 x]) ∧ Below w.heap.size w w' := by
  have hmf : ∀ (fn : Fn) (first cap : Array Value) (w : World), (Instr.makeFunc fn first cap).run Try.prog w = .ok (.func fn first cap) w := fun _ _ _ _ => rfl
  obtain ⟨t', rfl⟩ := hu0
  obtain ⟨n', rfl⟩ := hu1
  have Hg := Lib.hid hg
  clear hg
  go_enter Try.func36, Try.ntmps36
  go_wp2_with fail
  refine Hg.out.mono ?_
  rintro e w1 ⟨rfl, hb⟩
  have hz : (pw t m v n w).heap.size = w.heap.size + 4 := by simp [pw]
  rw [hz] at hb
  have a0 : w1.cell? ⟨w.heap.size + 3, 0, none⟩ = some (.string ⟨#[]⟩) := by rw [hb.cell (by simp), pw, new_cell (by simp)]; rfl
  have a1 : w1.cell? ⟨w.heap.size + 3, 1, none⟩ = some (.int .i64 0) := by rw [hb.cell (by simp), pw, new_cell (by simp)]; rfl
  have f0 : w1.frozen? ⟨w.heap.size + 3, 0, none⟩ = false := by rw [hb.frozen (by simp), pw, new_frozen (by simp)]
  have f1 : w1.frozen? ⟨w.heap.size + 3, 1, none⟩ = false := by rw [hb.frozen (by simp), pw, new_frozen (by simp)]
  have hB : Below w.heap.size w w1 := ((((((Below.refl w.heap.size w).alloc (Nat.le_refl _) _).alloc (by simp) _).alloc (by simp; omega) _).alloc (by simp; omega) _)).trans (hb.mono (by omega))
  have HB := Lib.hid hB
  clear hB hb hz Hg
  go_wp2
  refine bodyPost_ret (v := .tuple #[.agg #[.string t', .int .i64 n'], .int .i64 x]) (by simp [results, Try.results36, go_sem, a0, a1]) rfl ⟨rfl, ?_⟩
  exact (HB.out.setCell (p := ⟨w.heap.size + 3, 0, none⟩) (by simp) _).setCell (p := ⟨w.heap.size + 3, 1, none⟩) (by simp) _
theorem pw_size (t : ByteArray) (m v n : Int) (w : World) : (pw t m v n w).heap.size = w.heap.size + 4 := by simp [pw]
theorem pw_cells (t : ByteArray) (m v n : Int) (f : Value) (w : World) :
    (made (gw f (pw t m v n w))).cell? ⟨w.heap.size, 0, none⟩ = some (.string t) ∧ (made (gw f (pw t m v n w))).cell? ⟨w.heap.size, 1, none⟩ = some (.int .i64 m) ∧
    (made (gw f (pw t m v n w))).cell? ⟨w.heap.size + 1, 0, none⟩ = some (.int .u64 v) ∧ (made (gw f (pw t m v n w))).cell? ⟨w.heap.size + 2, 0, none⟩ = some (.int .i64 n) := by
  have hz := pw_size t m v n w
  have hs := gw_size f (pw t m v n w)
  have hb : Below (pw t m v n w).heap.size (pw t m v n w) (made (gw f (pw t m v n w))) := (gw_below f _).alloc (by rw [hs]; omega) _
  rw [hz] at hb
  refine ⟨?_, ?_, ?_, ?_⟩
  · rw [hb.cell (by simp), pw, old_cell (by simp; omega), old_cell (by simp; omega), old_cell (by simp), new_cell rfl]; rfl
  · rw [hb.cell (by simp), pw, old_cell (by simp; omega), old_cell (by simp; omega), old_cell (by simp), new_cell rfl]; rfl
  · rw [hb.cell (by simp), pw, old_cell (by simp), old_cell (by simp), new_cell (by simp)]; rfl
  · rw [hb.cell (by simp), pw, old_cell (by simp), new_cell (by simp)]; rfl
theorem put_ok (b : List Bool) (m x y : Int) (v n : Nat) (w : World) (hm : m = (b.length : Int)) (hx : x = (v : Int)) (hy : y = (n : Int)) (hv : v < 2 ^ 64) (hn : n ≤ 64) (hl : b.length ≤ 100000000000000) :
    Calls Try.prog 36 #[.agg #[.string (pack b), .int .i64 m], .int .u64 x, .int .i64 y] w fun e w' => e = .returned (.tuple #[bv (b ++ num v n), .int .i64 0]) ∧ Below w.heap.size w w' := by
  subst hm hx hy
  have hz := pw_size (pack b) (b.length : Int) (v : Int) (n : Int) w
  obtain ⟨c1, c2, c3, c4⟩ := pw_cells (pack b) (b.length : Int) (v : Int) (n : Int) (.func (.func 47) #[] #[.pointer (some ⟨w.heap.size, 0, none⟩), .pointer (some ⟨w.heap.size + 2, 0, none⟩), .pointer (some ⟨w.heap.size + 1, 0, none⟩)]) w
  refine put_frame (pack b) (b.length : Int) (v : Int) (n : Int) 0 _ _ w (grown_ok 47 _ (b ++ num v n) _ (fun _ _ => by kernel_rfl) ?_) ⟨_, rfl⟩ ⟨_, rfl⟩
  exact put1_ok _ _ w.heap.size (w.heap.size + 2) (w.heap.size + 1) b v n _ _ (gw_row _ _) (by omega) (by omega) (by omega) c1 c2 c4 c3 hv hn hl
theorem put_bad (t : ByteArray) (m v n : Int) (w : World) (h : right t.data.toList m = false ∨ n < 0 ∨ 64 < n) (hs : t.size ≤ 10000000000000) (hm1 : -9223372036854775808 ≤ m) (hm2 : m ≤ 9223372036854775807) :
    Calls Try.prog 36 #[.agg #[.string t, .int .i64 m], .int .u64 v, .int .i64 n] w fun e w' => e = .returned (.tuple #[noBits, .int .i64 1]) ∧ Below w.heap.size w w' := by
  have hz := pw_size t m v n w
  obtain ⟨c1, c2, c3, c4⟩ := pw_cells t m v n (.func (.func 47) #[] #[.pointer (some ⟨w.heap.size, 0, none⟩), .pointer (some ⟨w.heap.size + 2, 0, none⟩), .pointer (some ⟨w.heap.size + 1, 0, none⟩)]) w
  refine put_frame t m v n 1 _ _ w (grown_up 47 _ 1 _ (.inl rfl) (fun _ _ => by kernel_rfl) ?_) ⟨_, rfl⟩ ⟨_, rfl⟩
  cases hr : right t.data.toList m with
  | false => exact put1_no _ _ w.heap.size t m _ _ _ _ (gw_row _ _) c1 c2 hr (by omega) hm1 hm2
  | true =>
    rw [hr] at h
    obtain ⟨b, rfl, rfl⟩ := pack_of_right t m hr
    have hbl : b.length ≤ 100000000000000 := by rw [pack_size] at hs; omega
    exact put1_arg _ _ w.heap.size (w.heap.size + 2) (w.heap.size + 1) b n _ _ (gw_row _ _) (by omega) (by omega) c1 c2 c4 (h.resolve_left (by simp)) hbl
end Bt
end Go.Proofs.Ytdcenocljnlipaa

namespace Go.Proofs.Ytdcenocljnlipaa
open Go.RowKit
namespace Bt
open Bm
/-- a slice of bits, right or not, in blocks below B -/
def Bl (w : World) (B : Nat) (v : Value) (l : List (ByteArray × Int)) : Prop :=
  (∃ q c, v = .slice q 0 c ∧ l = []) ∨ ∃ lb lo cap, v = .slice (some ⟨lb, lo, none⟩) l.length cap ∧ lb < B ∧ l.length ≤ cap ∧ cap ≤ maxLen ∧
    ∀ i (h : i < l.length), w.cell? ⟨lb, lo + i * 2, none⟩ = some (.string l[i].1) ∧ w.cell? ⟨lb, lo + i * 2 + 1, none⟩ = some (.int .i64 l[i].2)
theorem Bl.slice {w : World} {B : Nat} {v : Value} {l : List (ByteArray × Int)} (h : Bl w B v l) : ∃ p n c, v = .slice p n c := by
  rcases h with ⟨_, _, h, _⟩ | ⟨lb, lo, cap, h, _⟩
  · exact ⟨_, _, _, h⟩
  · exact ⟨_, _, _, h⟩
def both (b : List Bool) : ByteArray × Int := (pack b, (b.length : Int))
theorem flat_le (bs : List (List Bool)) (i : Nat) : (bs.take i).flatten.length ≤ bs.flatten.length := by
  conv => rhs; rw [← List.take_append_drop i bs]
  rw [List.flatten_append, List.length_append]; omega
theorem flat_succ (bs : List (List Bool)) (i : Nat) (h : i < bs.length) : (bs.take (i + 1)).flatten = (bs.take i).flatten ++ bs[i] := by
  rw [List.take_succ_eq_append_getElem h, List.flatten_append]; simp
set_option maxRecDepth 100000 in
set_option maxHeartbeats 1000000 in
theorem cat1_ok (rb base pl : Nat) (bs : List (List Bool)) (s v : Value) (w : World) (hR : RowAt w rb base [] s) (_hp : pl < base ∧ pl ≠ rb) (cl : w.cell? ⟨pl, 0, none⟩ = some v) (hv : Bl w rb v (bs.map both)) (hl : bs.flatten.length ≤ 100000000000000) :
    Calls Try.prog 51 #[.pointer (some ⟨rb, 0, none⟩), .pointer (some ⟨pl, 0, none⟩)] w fun e w' =>
      e = .returned (.tuple #[]) ∧ (∃ s', RowAt w' rb base bs.flatten s') ∧ Kept rb base w w' := by
  rcases hv with ⟨_, _, rfl, hnil⟩ | ⟨lb, lo, cap, rfl, hlb, hcap, hcm, hcells⟩
  · have hn : bs = [] := by simpa using hnil
    subst hn
    go_enter Try.func51, Try.ntmps51
    go_wp2
    refine wp_loop_rounds 1 ?_
    rw [rounds_succ]
    go_wp2
    go_end0
    exact ⟨rfl, ⟨s, by simpa using hR⟩, Kept.refl hR.lt _⟩
  · rw [List.length_map] at hcap cl
    have Hcells := Lib.hid hcells
    have HR := Lib.hid hR
    have hlt := hR.lt
    clear hcells hR
    unfold maxLen at hcm
    go_enter Try.func51, Try.ntmps51
    go_wp2
    go_loopw [4, 7] (fun _ iv wr => ∃ i : Nat, i ≤ bs.length ∧ iv = .int .i64 (i : Int) ∧ (∃ s', RowAt wr rb base (bs.take i).flatten s') ∧ Kept rb base w wr) (fun _ iv _ => bs.length - (intOf iv).toNat)
    case atStart => exact ⟨0, by omega, rfl, ⟨s, by simpa using HR.out⟩, Kept.refl hlt _⟩
    case round =>
      obtain ⟨i, hi, rfl, ⟨s', hr⟩, hk⟩ := hrel
      by_cases hil : i < bs.length
      · obtain ⟨q0, q1⟩ := Hcells.out i (by simpa using hil)
        rw [List.getElem_map] at q0 q1
        have d0 := (hk.cell (p := ⟨lb, lo + i * 2, none⟩) (by simp; omega) (.inl (by simp; omega))).trans q0
        have d1 := (hk.cell (p := ⟨lb, lo + i * 2 + 1, none⟩) (by simp; omega) (.inl (by simp; omega))).trans q1
        simp only [both] at d0 d1
        have Hr := Lib.hid hr
        have Hk := Lib.hid hk
        clear hr hk q0 q1
        have hi2 : (i : Int) < (bs.length : Int) := by omega
        go_wp2_with fail
        have hr2 : RowAt (wr.alloc (.cells #[.string (pack bs[i]), .int .i64 (bs[i].length : Int)] 40)) rb base (bs.take i).flatten s' := Hr.out.below ((Below.refl _ _).alloc (Nat.le_refl _) _)
        have hfl := flat_le bs (i + 1)
        rw [flat_succ bs i hil, List.length_append] at hfl
        refine (join_at rb base (bs.take i).flatten bs[i] s' _ hr2 (by omega)).mono ?_
        rintro e w3 ⟨rfl, ⟨s3, hr3⟩, hk3⟩
        rw [← flat_succ bs i hil] at hr3
        have Hr3 := Lib.hid hr3
        have Hk3 : Hid (Kept rb base w w3) := (Hk.out.full Hr.out.le ((Below.refl _ _).alloc (Nat.le_refl _) _)).trans hk3
        clear hr2 hfl hr3 hk3
        go_wp2
        go_roundw
        case rel => exact ⟨i + 1, by omega, by congr 1, ⟨s3, Hr3.out⟩, Hk3.out⟩
        case measure => simp [intOf]; omega
      · obtain rfl : i = bs.length := by omega
        have Hr := Lib.hid hr
        have Hk := Lib.hid hk
        clear hr hk
        go_wp2
        go_end0
        exact ⟨rfl, ⟨s', by simpa using Hr.out⟩, Hk.out⟩
set_option maxRecDepth 100000 in
set_option maxHeartbeats 1000000 in
theorem cat1_no (rb base pl : Nat) (bs : List (List Bool)) (t : ByteArray) (m : Int) (rest : List (ByteArray × Int)) (s v : Value) (w : World) (hR : RowAt w rb base [] s) (_hp : pl < base ∧ pl ≠ rb) (cl : w.cell? ⟨pl, 0, none⟩ = some v) (hv : Bl w rb v (bs.map both ++ (t, m) :: rest)) (hl : bs.flatten.length ≤ 100000000000000)
    (hr0 : right t.data.toList m = false) (hs : t.size * 8 ≤ 9223372036854775807) (hm1 : -9223372036854775808 ≤ m) (hm2 : m ≤ 9223372036854775807) :
    Calls Try.prog 51 #[.pointer (some ⟨rb, 0, none⟩), .pointer (some ⟨pl, 0, none⟩)] w fun e w' => e = .panicked (up 1) ∧ Kept rb base w w' := by
  rcases hv with ⟨_, _, rfl, hnil⟩ | ⟨lb, lo, cap, rfl, hlb, hcap, hcm, hcells⟩
  · simp at hnil
  · obtain ⟨len, hlen⟩ : ∃ len, (bs.map both ++ (t, m) :: rest).length = len := ⟨_, rfl⟩
    have hbl : bs.length < len := by rw [← hlen]; simp
    rw [hlen] at hcap cl
    have Hcells := Lib.hid hcells
    have HR := Lib.hid hR
    have hlt := hR.lt
    have Hlen := Lib.hid hlen
    clear hcells hR hlen
    unfold maxLen at hcm
    go_enter Try.func51, Try.ntmps51
    go_wp2
    go_loopw [4, 7] (fun _ iv wr => ∃ i : Nat, i ≤ bs.length ∧ iv = .int .i64 (i : Int) ∧ (∃ s', RowAt wr rb base (bs.take i).flatten s') ∧ Kept rb base w wr) (fun _ iv _ => bs.length - (intOf iv).toNat)
    case atStart => exact ⟨0, by omega, rfl, ⟨s, by simpa using HR.out⟩, Kept.refl hlt _⟩
    case round =>
      obtain ⟨i, hi, rfl, ⟨s', hr⟩, hk⟩ := hrel
      have hi2 : (i : Int) < (len : Int) := by omega
      obtain ⟨q0, q1⟩ := Hcells.out i (by rw [Hlen.out]; omega)
      by_cases hil : i < bs.length
      · rw [List.getElem_append_left (by simpa using hil), List.getElem_map] at q0 q1
        have d0 := (hk.cell (p := ⟨lb, lo + i * 2, none⟩) (by simp; omega) (.inl (by simp; omega))).trans q0
        have d1 := (hk.cell (p := ⟨lb, lo + i * 2 + 1, none⟩) (by simp; omega) (.inl (by simp; omega))).trans q1
        simp only [both] at d0 d1
        have Hr := Lib.hid hr
        have Hk := Lib.hid hk
        clear hr hk q0 q1
        go_wp2_with fail
        have hr2 : RowAt (wr.alloc (.cells #[.string (pack bs[i]), .int .i64 (bs[i].length : Int)] 40)) rb base (bs.take i).flatten s' := Hr.out.below ((Below.refl _ _).alloc (Nat.le_refl _) _)
        have hfl := flat_le bs (i + 1)
        rw [flat_succ bs i hil, List.length_append] at hfl
        refine (join_at rb base (bs.take i).flatten bs[i] s' _ hr2 (by omega)).mono ?_
        rintro e w3 ⟨rfl, ⟨s3, hr3⟩, hk3⟩
        rw [← flat_succ bs i hil] at hr3
        have Hr3 := Lib.hid hr3
        have Hk3 : Hid (Kept rb base w w3) := (Hk.out.full Hr.out.le ((Below.refl _ _).alloc (Nat.le_refl _) _)).trans hk3
        clear hr2 hfl hr3 hk3
        go_wp2
        go_roundw
        case rel => exact ⟨i + 1, by omega, by congr 1, ⟨s3, Hr3.out⟩, Hk3.out⟩
        case measure => simp [intOf]; omega
      · have hib : i = bs.length := by omega
        have hget : ∀ h, (bs.map both ++ (t, m) :: rest)[i]'h = (t, m) := by
          intro h
          rw [List.getElem_append_right (by simp; omega)]
          simp [hib]
        rw [hget] at q0 q1
        have d0 := (hk.cell (p := ⟨lb, lo + i * 2, none⟩) (by simp; omega) (.inl (by simp; omega))).trans q0
        have d1 := (hk.cell (p := ⟨lb, lo + i * 2 + 1, none⟩) (by simp; omega) (.inl (by simp; omega))).trans q1
        simp only at d0 d1
        have Hr := Lib.hid hr
        have Hk := Lib.hid hk
        clear hr hk q0 q1 hget hib
        go_wp2_with fail
        refine (join_no _ t m _ hr0 hs hm1 hm2).mono ?_
        rintro e w3 ⟨rfl, hb3⟩
        have Hk3 : Hid (Kept rb base w w3) := (Hk.out.full Hr.out.le ((Below.refl _ _).alloc (Nat.le_refl _) _)).full (Kit.le_alloc Hr.out.le _) hb3
        clear hb3
        go_wp2
        exact ⟨rfl, rfl, Hk3.out⟩
def cw (v : Value) (w : World) : World := (w.alloc (.cells #[v] 60)).alloc (.cells #[.string ⟨#[]⟩, .int .i64 0] 40)
theorem cw_size (v : Value) (w : World) : (cw v w).heap.size = w.heap.size + 2 := by simp [cw]
theorem cw_below (v : Value) (w : World) : Below w.heap.size w (cw v w) := ((Below.refl w.heap.size w).alloc (Nat.le_refl _) _).alloc (by simp) _
theorem made_gw_below (f : Value) (w : World) : Below w.heap.size w (made (gw f w)) := (gw_below f w).alloc (by rw [gw_size]; omega) _
theorem Bl.below {w w' : World} {B B' : Nat} {v : Value} {l : List (ByteArray × Int)} (h : Bl w B v l) (hB : B ≤ B') (hb : Below B w w') : Bl w' B' v l := by
  rcases h with h | ⟨lb, lo, cap, h1, h2, h3, h4, h5⟩
  · exact .inl h
  · refine .inr ⟨lb, lo, cap, h1, by omega, h3, h4, fun i hi => ?_⟩
    rw [hb.cell (p := ⟨lb, lo + i * 2, none⟩) h2, hb.cell (p := ⟨lb, lo + i * 2 + 1, none⟩) h2]
    exact h5 i hi
set_option maxRecDepth 100000 in
set_option maxHeartbeats 1000000 in
theorem cat_frame (v : Value) (x : Int) (u0 u1 : Value) (w : World)
    (hg : Calls Try.prog 46 #[.func (.func 51) #[] #[.pointer (some ⟨w.heap.size, 0, none⟩)]] (cw v w) fun e w' => e = .returned (.tuple #[.agg #[u0, u1], .int .i64 x]) ∧ Below (cw v w).heap.size (cw v w) w')
    (hu0 : ∃ t', u0 = .string t') (hu1 : ∃ n', u1 = .int .i64 n') (hsl : ∃ p n c, v = .slice p n c) :
    Calls Try.prog 37 #[v] w fun e w' => e = .returned (.tuple #[.agg #[u0, u1], .int .i64 x]) ∧ Below w.heap.size w w' := by
  have hmf : ∀ (fn : Fn) (first cap : Array Value) (w : World), (Instr.makeFunc fn first cap).run Try.prog w = .ok (.func fn first cap) w := fun _ _ _ _ => rfl
  obtain ⟨t', rfl⟩ := hu0
  obtain ⟨n', rfl⟩ := hu1
  obtain ⟨p, n, c, rfl⟩ := hsl
  have Hg := Lib.hid hg
  clear hg
  go_enter Try.func37, Try.ntmps37
  go_wp2_with fail
  refine Hg.out.mono ?_
  rintro e w1 ⟨rfl, hb⟩
  rw [cw_size] at hb
  have a0 : w1.cell? ⟨w.heap.size + 1, 0, none⟩ = some (.string ⟨#[]⟩) := by rw [hb.cell (by simp), cw, new_cell (by simp)]; rfl
  have a1 : w1.cell? ⟨w.heap.size + 1, 1, none⟩ = some (.int .i64 0) := by rw [hb.cell (by simp), cw, new_cell (by simp)]; rfl
  have f0 : w1.frozen? ⟨w.heap.size + 1, 0, none⟩ = false := by rw [hb.frozen (by simp), cw, new_frozen (by simp)]
  have f1 : w1.frozen? ⟨w.heap.size + 1, 1, none⟩ = false := by rw [hb.frozen (by simp), cw, new_frozen (by simp)]
  have hB : Below w.heap.size w w1 := (cw_below (.slice p n c) w).trans (hb.mono (by omega))
  have HB := Lib.hid hB
  clear hB hb Hg
  go_wp2
  refine bodyPost_ret (v := .tuple #[.agg #[.string t', .int .i64 n'], .int .i64 x]) (by simp [results, Try.results37, go_sem, a0, a1]) rfl ⟨rfl, ?_⟩
  exact (HB.out.setCell (p := ⟨w.heap.size + 1, 0, none⟩) (by simp) _).setCell (p := ⟨w.heap.size + 1, 1, none⟩) (by simp) _
theorem cw_cell (f v : Value) (w : World) : (made (gw f (cw v w))).cell? ⟨w.heap.size, 0, none⟩ = some v := by
  rw [(made_gw_below f (cw v w)).cell (by rw [cw_size]; simp), cw, old_cell (by simp), new_cell rfl]; rfl
theorem cat_ok (v : Value) (bs : List (List Bool)) (w : World) (hv : Bl w w.heap.size v (bs.map both)) (hl : bs.flatten.length ≤ 100000000000000) :
    Calls Try.prog 37 #[v] w fun e w' => e = .returned (.tuple #[bv bs.flatten, .int .i64 0]) ∧ Below w.heap.size w w' := by
  have hz := cw_size v w
  refine cat_frame v 0 _ _ w (grown_ok 51 _ bs.flatten _ (fun _ _ => by kernel_rfl) ?_) ⟨_, rfl⟩ ⟨_, rfl⟩ hv.slice
  refine cat1_ok _ _ w.heap.size bs _ v _ (gw_row _ _) (by omega) (cw_cell _ v w) ?_ hl
  exact hv.below (by omega) ((cw_below v w).trans ((made_gw_below _ _).mono (by omega)))
theorem cat_no (v : Value) (bs : List (List Bool)) (t : ByteArray) (m : Int) (rest : List (ByteArray × Int)) (w : World) (hv : Bl w w.heap.size v (bs.map both ++ (t, m) :: rest)) (hl : bs.flatten.length ≤ 100000000000000)
    (hr0 : right t.data.toList m = false) (hs : t.size * 8 ≤ 9223372036854775807) (hm1 : -9223372036854775808 ≤ m) (hm2 : m ≤ 9223372036854775807) :
    Calls Try.prog 37 #[v] w fun e w' => e = .returned (.tuple #[noBits, .int .i64 1]) ∧ Below w.heap.size w w' := by
  have hz := cw_size v w
  refine cat_frame v 1 _ _ w (grown_up 51 _ 1 _ (.inl rfl) (fun _ _ => by kernel_rfl) ?_) ⟨_, rfl⟩ ⟨_, rfl⟩ hv.slice
  refine cat1_no _ _ w.heap.size bs t m rest _ v _ (gw_row _ _) (by omega) (cw_cell _ v w) ?_ hl hr0 hs hm1 hm2
  exact hv.below (by omega) ((cw_below v w).trans ((made_gw_below _ _).mono (by omega)))
end Bt
end Go.Proofs.Ytdcenocljnlipaa

namespace Go.Proofs.Ytdcenocljnlipaa
open Go.RowKit
namespace Bb
open Ab Bm Bt
theorem all2_len {σ : Names} {κ : Kw} {l : List AV} {m : List Value} (h : All2 σ κ l m) : m.length = l.length := h.length
/-- an older contract, at whatever world its arguments stand in -/
theorem lift {P : Program} {f : FuncId} {args : List AV} {A : AV} {v : Value} (hent : ∀ (l : Array Value) (w : World), (callFunc f l).run P w = .ok (.enter f l) w)
    (h : ∀ σ κ vs, All2 σ κ args vs → Calls P f vs.toArray κ.w fun e w' => e = .returned v ∧ Below κ.w.heap.size κ.w w') (hA : ∀ σ κ, A.p σ κ v) (hs : A.sup = []) : FPure P f args A where
  sup := hs
  ent := hent
  calls := fun σ κ us hus => by
    refine (h σ κ us hus).mono ?_
    rintro e w' ⟨rfl, hb⟩
    refine ⟨v, ⟨w', κ.own, fun b k hk => Nat.lt_of_lt_of_le (κ.lt b k hk) hb.size⟩, rfl, rfl, ⟨hb.os, hb.tape, hb.output, hb.size, fun b hlt ho => ⟨ho, hb.block b hlt⟩, fun b k ho => ⟨fun k' hk' => ?_, fun j u _ hu => ?_⟩⟩, fun b hlt => ⟨rfl, hb.block b hlt⟩, hA _ _⟩
    · have : κ.own b = some k' := hk'
      rw [ho] at this; cases this; exact Nat.le_refl _
    · have := hb.block b (κ.lt b k ho)
      simp only [World.cell?] at hu ⊢
      rw [this]; exact hu
/-- bits, as they are handed over -/
abbrev BV (s : ByteArray) (n : Int) : AV := Agg [Is (.string s), Is (.int .i64 n)]
theorem BV.is {σ : Names} {κ : Kw} {s : ByteArray} {n : Int} {v : Value} (h : (BV s n).p σ κ v) : v = .agg #[.string s, .int .i64 n] := by
  obtain ⟨us, rfl, h⟩ := h
  match us, h with
  | [a, b], ⟨h1, h2, _⟩ =>
    have h1 : a = .string s := h1
    have h2 : b = .int .i64 n := h2
    rw [h1, h2]
theorem BV.mk {σ : Names} {κ : Kw} (s : ByteArray) (n : Int) : (BV s n).p σ κ (.agg #[.string s, .int .i64 n]) := ⟨[_, _], rfl, rfl, rfl, trivial⟩
theorem TV.mk {σ : Names} {κ : Kw} {A : AV} {v : Value} (h : A.p σ κ v) (k : IntKind) (e : Int) : (Tup [A, Is (.int k e)]).p σ κ (.tuple #[v, .int k e]) := ⟨[_, _], rfl, h, rfl, trivial⟩
theorem put_f (b : List Bool) (m x y : Int) (v n : Nat) (hm : m = (b.length : Int)) (hx : x = (v : Int)) (hy : y = (n : Int)) (hv : v < 2 ^ 64) (hn : n ≤ 64) (hl : b.length ≤ 100000000000000) :
    FPure Try.prog 36 [BV (pack b) m, Is (.int .u64 x), Is (.int .i64 y)] (Tup [BV (pack (b ++ num v n)) ((b ++ num v n).length : Int), Is (.int .i64 0)]) :=
  lift (v := .tuple #[bv (b ++ num v n), .int .i64 0]) (run_callFunc Try.func36 rfl rfl) (fun σ κ vs h => by
    match vs, h with
    | [a, c, d], ⟨h1, h2, h3, _⟩ =>
      have h2 : c = .int .u64 x := h2
      have h3 : d = .int .i64 y := h3
      rw [BV.is h1, h2, h3]
      exact put_ok b m x y v n κ.w hm hx hy hv hn hl) (fun σ κ => TV.mk (BV.mk _ _) _ _) rfl
theorem put_no (t : ByteArray) (m v n : Int) (h : right t.data.toList m = false ∨ n < 0 ∨ 64 < n) (hs : t.size ≤ 10000000000000) (hm1 : -9223372036854775808 ≤ m) (hm2 : m ≤ 9223372036854775807) :
    FPure Try.prog 36 [BV t m, Is (.int .u64 v), Is (.int .i64 n)] (Tup [BV ⟨#[]⟩ 0, Is (.int .i64 1)]) :=
  lift (v := .tuple #[noBits, .int .i64 1]) (run_callFunc Try.func36 rfl rfl) (fun σ κ vs hv => by
    match vs, hv with
    | [a, c, d], ⟨h1, h2, h3, _⟩ =>
      have h2 : c = .int .u64 v := h2
      have h3 : d = .int .i64 n := h3
      rw [BV.is h1, h2, h3]
      exact put_bad t m v n κ.w h hs hm1 hm2) (fun σ κ => TV.mk (BV.mk _ _) _ _) rfl
/-- what Get tells -/
def getV (s : ByteArray) (a n : Int) : Int × Int :=
  if (decide (0 ≤ n) && decide (n ≤ 64) && decide (0 ≤ a)) = false then (0, 1) else if a + n ≤ 8 * s.size then (((val (bitsAt s.data.toList a.toNat n.toNat) : Nat) : Int), 0) else (0, 2)
theorem right_f (s : ByteArray) (n : Int) (hs : s.size * 8 ≤ 9223372036854775807) (hn1 : -9223372036854775808 ≤ n) (hn2 : n ≤ 9223372036854775807) :
    FPure Try.prog 61 [BV s n] (Is (.bool (right s.data.toList n))) :=
  lift (run_callFunc Try.func61 rfl rfl) (fun σ κ vs h => by
    match vs, h with
    | [a], ⟨h1, _⟩ =>
      rw [BV.is h1]
      exact right_at s n κ.w hs hn1 hn2) (fun σ κ => rfl) rfl
theorem bl_of {κ : Kw} {l : List (ByteArray × Int)} {v : Value} (h : SlP κ 2 l.length (pcells l) v) : Bl κ.w κ.w.heap.size v l := by
  obtain ⟨_, ⟨rfl, h2⟩ | ⟨ad, c, rfl, h3, h4, h5⟩⟩ := h
  · exact .inl ⟨_, _, rfl, List.eq_nil_of_length_eq_zero h2⟩
  · by_cases hl : l = []
    · subst hl; exact .inl ⟨_, _, rfl, rfl⟩
    · have hl : 0 < l.length := List.length_pos_iff.2 hl
      obtain ⟨ab, ao, asp⟩ := ad
      have key : ∀ i (h : i < l.length), asp = none ∧ κ.w.cell? ⟨ab, ao + i * 2, none⟩ = some (.string l[i].1) ∧ κ.w.cell? ⟨ab, ao + i * 2 + 1, none⟩ = some (.int .i64 l[i].2) := fun i hi => by
        have h6 := h5 _ _ (pcells_at l i hi).1
        have h7 := h5 _ _ (pcells_at l i hi).2
        exact ⟨h6.1, h6.2.1, by rw [Nat.add_assoc]; exact h7.2.1⟩
      have hsp : asp = none := (key 0 hl).1
      subst hsp
      exact .inr ⟨ab, ao, c, rfl, lt_of_cell (key 0 hl).2.1, h3, h4, fun i hi => (key i hi).2⟩
theorem cat_f (bs : List (List Bool)) (n : Nat) (xs : List Value) (hn : n = bs.length) (hx : xs = pcells (bs.map both)) (hl : bs.flatten.length ≤ 100000000000000) :
    FPure Try.prog 37 [Sl 2 n xs] (Tup [BV (pack bs.flatten) (bs.flatten.length : Int), Is (.int .i64 0)]) :=
  lift (v := .tuple #[bv bs.flatten, .int .i64 0]) (run_callFunc Try.func37 rfl rfl) (fun σ κ vs h => by
    subst hn hx
    match vs, h with
    | [v], ⟨h1, _⟩ =>
      have h1 : SlP κ 2 bs.length (pcells (bs.map both)) v := h1
      exact cat_ok v bs κ.w (bl_of (by rw [List.length_map]; exact h1)) hl) (fun σ κ => TV.mk (BV.mk _ _) _ _) rfl
theorem cat_n (bs : List (List Bool)) (t : ByteArray) (m : Int) (rest : List (ByteArray × Int)) (n : Nat) (xs : List Value) (hn : n = (bs.map both ++ (t, m) :: rest).length) (hx : xs = pcells (bs.map both ++ (t, m) :: rest)) (hl : bs.flatten.length ≤ 100000000000000)
    (hr : right t.data.toList m = false) (hs : t.size * 8 ≤ 9223372036854775807) (hm1 : -9223372036854775808 ≤ m) (hm2 : m ≤ 9223372036854775807) :
    FPure Try.prog 37 [Sl 2 n xs] (Tup [BV ⟨#[]⟩ 0, Is (.int .i64 1)]) :=
  lift (v := .tuple #[noBits, .int .i64 1]) (run_callFunc Try.func37 rfl rfl) (fun σ κ vs h => by
    subst hn hx
    match vs, h with
    | [v], ⟨h1, _⟩ => exact cat_no v bs t m rest κ.w (bl_of h1) hl hr hs hm1 hm2) (fun σ κ => TV.mk (BV.mk _ _) _ _) rfl
end Bb
end Go.Proofs.Ytdcenocljnlipaa
