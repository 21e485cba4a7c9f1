/-
  MATHS of stage 9.
-/
import Derived.Test.YtbfigolloaeknaaRows
import Derived.Test.YtbfigolloaeknaaMgc
import Derived.Test.YtbfigolloaeknaaDd
import Derived.Test.YtbfigolloaeknaaDa
import Derived.Test.YtbfigolloaeknaaDb
import Derived.Test.YtbfigolloaeknaaDc
import Derived.Test.YtbfigolloaeknaaDe
import Derived.Test.YtbfigolloaeknaaDf
import Derived.Test.YtbfigolloaeknaaDg
import Derived.Test.YtbfigolloaeknaaMha
import Derived.Test.YtbfigolloaeknaaCa
import Derived.Test.YtbfigolloaeknaaCm
namespace Go.Proofs.Ytbfigolloaeknaa
open Go.RowKit
namespace Dm
open Ab Bm Bt Dd Da Db Dc De Df Dg Bb Ca Cm

theorem pd_good {l : List Int} (h2 : 2 ≤ l.length) (h3 : l.length ≤ 258) (hg : ∀ x ∈ l, Da.good x) : putD l = ((pack (dB l), ((dB l).length : Int)), 0) := by
  rw [putD, if_neg (by omega), if_pos hg]
theorem gd_at {l : List Int} (hg : ∀ x ∈ l, Da.good x) (j : Nat) (hj : j < l.length) : Da.good (l.getD j 0) := hg _ (getD_mem' hj)
theorem dB_le {l : List Int} (hg : ∀ x ∈ l, Da.good x) : (dB l).length ≤ 5 + 39 * l.length := dps_flat l.length (gd_at hg)
theorem dps_5 (l : List Int) (k : Nat) : 5 + k ≤ (dps l k).flatten.length := by
  induction k with
  | zero => simp [dps, num_len]
  | succ k ih =>
    rw [dps_s, List.flatten_append, List.length_append]
    simp only [List.flatten_cons, List.flatten_nil, List.append_nil, chgB_len]
    omega
theorem tsk_le (s : ByteArray) (v a : Int) : ∀ k, (tsk s v a k).1.length ≤ k
  | 0 => Nat.le_refl _
  | k + 1 => by
    have ih := tsk_le s v a k
    rw [tsk]; split
    · omega
    · split
      · exact Nat.zero_le _
      · simp; exact ih
theorem take_le (s : ByteArray) (a n : Int) : (takeD s a n).1.length ≤ 258 := by
  unfold takeD
  split
  · exact Nat.zero_le _
  · split
    · exact Nat.zero_le _
    · split
      · exact Nat.zero_le _
      · have := tsk_le s (getV s a 5).1 (a + 5) n.toNat
        show (tsk s (getV s a 5).1 (a + 5) n.toNat).1.length ≤ 258
        omega
theorem rp_t {l : List Int} {n : Nat} {xs : List Value} {b : ByteArray} {m e : Int} (hr : putD l = ((b, m), e)) (hn : n = l.length) (hx : xs = l.map (Value.int .i64)) (hm : l.length ≤ 9223372036854775807) : FPure Try.prog 12 [Sl 1 n xs] (Tup [Agg [Is (.string b), Is (.int .i64 m)], Is (.int .i64 e)]) := by
  subst hn hx
  have h := rput_s l hm
  rw [hr] at h
  exact h
theorem pt_t {l : List Int} {n : Nat} {xs : List Value} {b : ByteArray} {m e : Int} (hr : putD l = ((b, m), e)) (hn : n = l.length) (hx : xs = l.map (Value.int .i64)) (hm : l.length ≤ 9223372036854775807) : FPure Try.prog 11 [Sl 1 n xs] (Tup [Agg [Is (.string b), Is (.int .i64 m)], Is (.int .i64 e)]) := by
  subst hn hx
  have h := put_s l hm
  rw [hr] at h
  exact h
theorem ints_x (l m : List Int) {n : Nat} (hm : n = m.length) (hl : l.length ≤ 1000000) {ys : List Value} (hy : ys = m.map (Value.int .i64) := by rfl) (hm2 : n ≤ 1000000 := by omega) : FPure Try.prog 16 [Sl 1 l.length (l.map (Value.int .i64)), Sl 1 n ys] (Is (.bool (decide (l = m)))) := by
  subst hm hy
  exact ints_s l m (by omega) (by omega)

theorem xor_u8 {P : Program} {t : TypeId} (x y : UInt8) (w : World) : (binOp .xor t (.int .u8 (x.toNat : Int)) (.int .u8 (y.toNat : Int))).run P w = .ok (.int .u8 ((x ^^^ y).toNat : Int)) w := by
  show (Op.intBits .xor .u8 (x.toNat : Int) (y.toNat : Int)).run P w = _
  have h1 : ∀ z : UInt8, BitVec.ofInt 8 (z.toNat : Int) = z.toBitVec := fun z => by
    rw [BitVec.ofInt_natCast]
    exact BitVec.ofNat_toNat _ _
  have h2 : IntKind.u8.wrap (((x.toBitVec ^^^ y.toBitVec).toNat : Nat) : Int) = ((x ^^^ y).toNat : Int) := by
    have : (x.toBitVec ^^^ y.toBitVec).toNat < 256 := (x.toBitVec ^^^ y.toBitVec).isLt
    rw [IntKind.wrap_u8]
    show _ = (((x.toBitVec ^^^ y.toBitVec).toNat : Nat) : Int)
    omega
  show (pure (Value.int .u8 (IntKind.u8.wrap (((BitVec.ofInt 8 (x.toNat : Int) ^^^ BitVec.ofInt 8 (y.toNat : Int)).toNat : Nat) : Int))) : Sem Value).run P w = _
  rw [h1, h1, h2]; rfl
/-- one bit of a byte, the highest one first -/
def mask (j : Nat) : UInt8 := UInt8.ofNat (2 ^ (7 - j))
theorem mask_at : ∀ j, j < 8 → Int.fdiv 128 (2 ^ min j 8) = ((mask j).toNat : Int) := by decide
theorem mask_of (k : Int) (_h : 0 ≤ k) : Int.fdiv 128 (2 ^ min (k % 8).toNat (IntKind.u8.bits)) = ((mask (k % 8).toNat).toNat : Int) := mask_at _ (by omega)
theorem xor_m {P : Program} {t : TypeId} (x : UInt8) (k : Int) (h : 0 ≤ k) (w : World) : (binOp .xor t (.int .u8 (x.toNat : Int)) (.int .u8 (Int.fdiv 128 (2 ^ min (k % 8).toNat (IntKind.u8.bits))))).run P w = .ok (.int .u8 ((x ^^^ mask (k % 8).toNat).toNat : Int)) w := by
  rw [mask_of k h]; exact xor_u8 _ _ w
/-- a text, one bit of which is turned -/
def turnS (s : ByteArray) (k : Int) : ByteArray := ⟨(s.data.toList.set (k / 8).toNat (s.data.toList.getD (k / 8).toNat 0 ^^^ mask (k % 8).toNat)).toArray⟩
theorem turnS_size (s : ByteArray) (k : Int) : (turnS s k).size = s.size := by
  show (s.data.toList.set _ _).length = s.size
  rw [List.length_set]; rfl

def twoN (a b : Int) : List Int := [a, b]
def threeN (a b c : Int) : List Int := [a, b, c]
def threeS (a b c : ByteArray) : List ByteArray := [a, b, c]
def twoS (a b : ByteArray) : List ByteArray := [a, b]
def twoI (l m : List Int) : Nat → List Int
  | 0 => l
  | _ => m
theorem twoI_len (l m : List Int) (hl : l.length ≤ 300) (hm : m.length ≤ 300) : ∀ k, (twoI l m k).length ≤ 300
  | 0 => hl
  | _ + 1 => hm
theorem twoN_in {a b : Int} (ha : -9223372036854775808 ≤ a ∧ a ≤ 9223372036854775807) (hb : -9223372036854775808 ≤ b ∧ b ≤ 9223372036854775807) : In64 (twoN a b) := fun x hx => by
  rcases List.mem_cons.1 hx with rfl | hx
  · exact ha
  · rcases List.mem_cons.1 hx with rfl | hx
    · exact hb
    · cases hx
theorem threeN_in {a b c : Int} (ha : -9223372036854775808 ≤ a ∧ a ≤ 9223372036854775807) (hb : -9223372036854775808 ≤ b ∧ b ≤ 9223372036854775807) (hc : -9223372036854775808 ≤ c ∧ c ≤ 9223372036854775807) : In64 (threeN a b c) := fun x hx => by
  rcases List.mem_cons.1 hx with rfl | hx
  · exact ha
  · rcases List.mem_cons.1 hx with rfl | hx
    · exact hb
    · rcases List.mem_cons.1 hx with rfl | hx
      · exact hc
      · cases hx
theorem threeS_size (a b c : ByteArray) (ha : a.size ≤ 400) (hb : b.size ≤ 400) (hc : c.size ≤ 400) (k : Nat) (hk : k < 3) : ((threeS a b c).getD k ByteArray.empty).size ≤ 400 := by
  match k, hk with
  | 0, _ => exact ha
  | 1, _ => exact hb
  | 2, _ => exact hc
theorem twoS_size (a b : ByteArray) (ha : a.size ≤ 400) (hb : b.size ≤ 400) (k : Nat) (hk : k < 2) : ((twoS a b).getD k ByteArray.empty).size ≤ 400 := by
  match k, hk with
  | 0, _ => exact ha
  | 1, _ => exact hb
end Dm
end Go.Proofs.Ytbfigolloaeknaa
