/-
  THE WALK of CrcTail: it returns true, whatever it is given.
-/
import Derived.Test.YtlfbkkfcbpallaaWMore
namespace Go.Proofs.Ytlfbkkfcbpallaa
open Go.RowKit
namespace CrcTail
open Crc CrcMore
def tb (p : BitVec 32) (k : Nat) : UInt8 := ⟨(p >>> k).setWidth 8⟩
def tail (p : BitVec 32) : List UInt8 := [tb p 24, tb p 16, tb p 8, tb p 0]
theorem tb_nat (p : BitVec 32) (k : Nat) : (tb p k).toNat = p.toNat / 2 ^ k % 256 := by
  show ((p >>> k).setWidth 8).toNat = _
  rw [BitVec.toNat_setWidth, BitVec.toNat_ushiftRight, Nat.shiftRight_eq_div_pow]
theorem tailSl (w : World) (p : BitVec 32) : Kit.Sl (w.alloc (.cells #[.int .u8 ((p.toNat : Int) / 16777216), .int .u8 ((p.toNat : Int) / 65536 % 256), .int .u8 ((p.toNat : Int) / 256 % 256), .int .u8 ((p.toNat : Int) % 256)] 5)) 1 (.slice (some ⟨w.heap.size, 0, none⟩) 4 4) 4 ((tail p).map Kit.B) := by
  have h := Kit.Sl.lit w #[.int .u8 ((p.toNat : Int) / 16777216), .int .u8 ((p.toNat : Int) / 65536 % 256), .int .u8 ((p.toNat : Int) / 256 % 256), .int .u8 ((p.toNat : Int) % 256)] 5 1 4 rfl (by unfold maxLen; omega)
  have e : (tail p).map Kit.B = [.int .u8 ((p.toNat : Int) / 16777216), .int .u8 ((p.toNat : Int) / 65536 % 256), .int .u8 ((p.toNat : Int) / 256 % 256), .int .u8 ((p.toNat : Int) % 256)] := by
    have e3 : ((p.toNat / 2 ^ 24 % 256 : Nat) : Int) = (p.toNat : Int) / 16777216 := by have := p.isLt; omega
    have e2 : ((p.toNat / 2 ^ 16 % 256 : Nat) : Int) = (p.toNat : Int) / 65536 % 256 := by omega
    have e1 : ((p.toNat / 2 ^ 8 % 256 : Nat) : Int) = (p.toNat : Int) / 256 % 256 := by omega
    have e0 : ((p.toNat / 2 ^ 0 % 256 : Nat) : Int) = (p.toNat : Int) % 256 := by omega
    simp only [tail, List.map_cons, List.map_nil, Kit.B, tb_nat, e3, e2, e1, e0]
  rw [e]; exact h
theorem tailSl2 (w : World) (o : Obj) (p : BitVec 32) : Kit.Sl ((w.alloc o).alloc (.cells #[.int .u8 ((p.toNat : Int) / 16777216), .int .u8 ((p.toNat : Int) / 65536 % 256), .int .u8 ((p.toNat : Int) / 256 % 256), .int .u8 ((p.toNat : Int) % 256)] 5)) 1 (.slice (some ⟨w.heap.size + 1, 0, none⟩) 4 4) 4 ((tail p).map Kit.B) := by
  have := tailSl (w.alloc o) p
  rwa [World.size_alloc] at this
theorem word_tail (p : BitVec 32) : word (tb p 24) (tb p 16) (tb p 8) (tb p 0) = p := by
  rw [word_bits]
  apply BitVec.eq_of_getLsbD_eq
  intro i hi
  simp only [BitVec.getLsbD_append, tb, BitVec.getLsbD_setWidth, BitVec.getLsbD_ushiftRight]
  by_cases h8 : i < 8
  · simp [h8]
  · by_cases h16 : i < 16
    · simp [h8, show i - 8 < 8 by omega, show 8 + (i - 8) = i by omega]
    · by_cases h24 : i < 24
      · simp [h8, show ¬ i - 8 < 8 by omega, show i - 8 - 8 < 8 by omega, show 16 + (i - 8 - 8) = i by omega]
      · simp [h8, show ¬ i - 8 < 8 by omega, show ¬ i - 8 - 8 < 8 by omega, show i - 8 - 8 - 8 < 8 by omega, show 24 + (i - 8 - 8 - 8) = i by omega]
theorem tail_sum (l : List UInt8) : more 0#32 (l ++ tail (more 0#32 l)) = ~~~ (steps 32 (~~~ 0#32)) := by
  rw [more_append]
  generalize hq : more 0#32 l = q
  unfold more tail
  have e : ~~~q ^^^ q = ~~~0#32 := by
    apply BitVec.eq_of_getLsbD_eq
    intro i hi
    rw [BitVec.getLsbD_xor, BitVec.getLsbD_not, BitVec.getLsbD_not]
    cases q.getLsbD i <;> simp [hi]
  rw [takes4, word_tail, e]
set_option maxRecDepth 100000 in
set_option maxHeartbeats 1000000 in
theorem walk {w : World} (s : ByteArray) (hs : s.size ≤ maxLen) (t : ByteArray) (ht : t.size ≤ maxLen) :
    Calls Try.prog 8 #[.string s, .string t] w fun e w' => e = .returned (.bool true) ∧ Below w.heap.size w w' := by
  unfold maxLen at hs ht
  go_enter Try.func8, Try.ntmps8
  go_wp2_with fail
  refine (awake_at _).mono ?_
  rintro e w1 ⟨rfl, hb1⟩
  have HB1 := Lib.hid hb1
  clear hb1
  go_wp2_with (first
    | (refine Kit.wpList_min rfl (.tmp 15) (.const (.int .i64 60)) 3 rfl s.size 60 rfl rfl ?_; intro m hm1 hm2 hm3)
    | (refine Kit.wpList_min rfl (.tmp 20) (.const (.int .i64 60)) 3 rfl t.size 60 rfl rfl ?_; intro k hk1 hk2 hk3))
  have ha : (s.extract 0 m).size ≤ 60 := by simp; omega
  have hb : (t.extract 0 k).size ≤ 60 := by simp; omega
  generalize s.extract 0 m = a at ha ⊢
  generalize t.extract 0 k = b at hb ⊢
  refine (sum_at a _ (by unfold maxLen; omega)).mono ?_
  rintro e w2 ⟨rfl, hb2⟩
  have HB2 : Hid (Below w.heap.size w w2) := HB1.out.trans (hb2.mono HB1.out.size)
  clear hb2
  go_wp2_with fail
  refine (sum_at b _ (by unfold maxLen; omega)).mono ?_
  rintro e w3 ⟨rfl, hb3⟩
  have HB3 : Hid (Below w.heap.size w w3) := HB2.out.trans (hb3.mono HB2.out.size)
  clear hb3
  obtain ⟨p, hp⟩ : ∃ p, more 0#32 a.data.toList = p := ⟨_, rfl⟩
  obtain ⟨q, hq⟩ : ∃ q, more 0#32 b.data.toList = q := ⟨_, rfl⟩
  rw [hp, hq]
  have ep := tail_sum a.data.toList
  have eq := tail_sum b.data.toList
  rw [hp] at ep
  rw [hq] at eq
  obtain ⟨R, hR⟩ : ∃ R, ~~~ (steps 32 (~~~ 0#32)) = R := ⟨_, rfl⟩
  rw [hR] at ep eq
  clear hR
  have Ep := Lib.hid ep
  have Eq := Lib.hid eq
  clear hp hq ep eq
  have lp : (tail p).length = 4 := rfl
  have lq : (tail q).length = 4 := rfl
  have p0 : (0 : Int) ≤ p.toNat := by omega
  have p1 : (p.toNat : Int) ≤ 4294967295 := by have := p.isLt; omega
  have q0 : (0 : Int) ≤ q.toNat := by omega
  have q1 : (q.toNat : Int) ≤ 4294967295 := by have := q.isLt; omega
  go_wp2_with (first
    | (refine Kit.wpList_to_string rfl 32 9 5 (.tmp 39) rfl Try.underlying32 Try.underlying5 Try.underlying9 _ 4 _ rfl (tailSl w3 p) ?_)
    | (refine Kit.wpList_to_string rfl 32 9 5 (.tmp 54) rfl Try.underlying32 Try.underlying5 Try.underlying9 _ 4 _ rfl (tailSl2 w3 _ q) ?_))
  refine (sum_closed _ (R.toNat : Int) _ (by rw [size_cat, Ep.out]) (by rw [ByteArray.size_append]; simp only [ByteArray.size, List.size_toArray, lp]; unfold maxLen; simp only [ByteArray.size] at ha; omega)).mono ?_
  rintro e w5 ⟨rfl, hb5⟩
  have HB5 : Hid (Below w.heap.size w w5) := (((HB3.out.alloc HB3.out.size _).alloc (Kit.le_alloc HB3.out.size _) _).trans (hb5.mono (Kit.le_alloc (Kit.le_alloc HB3.out.size _) _)))
  clear hb5
  go_wp2_with fail
  refine (sum_closed _ (R.toNat : Int) _ (by rw [size_cat, Eq.out]) (by rw [ByteArray.size_append]; simp only [ByteArray.size, List.size_toArray, lq]; unfold maxLen; simp only [ByteArray.size] at hb; omega)).mono ?_
  rintro e w6 ⟨rfl, hb6⟩
  have HB6 : Hid (Below w.heap.size w w6) := HB5.out.trans (hb6.mono HB5.out.size)
  clear hb6
  go_wp2_with fail
  go_ret
  exact ⟨rfl, HB6.out⟩
end CrcTail
end Go.Proofs.Ytlfbkkfcbpallaa
