import Derived.Test.YtlfbkkfcbpallaaCrc
namespace Go.Proofs.Ytlfbkkfcbpallaa
open Go.RowKit
namespace Crc

theorem info_tab' (n : Nat) : (Try.prog.info? 40).map (·.size) = some (tab n).size := by rw [tab_size]; exact info_tab
theorem tab_same (m n : Nat) : (tab m).size = (tab n).size := by rw [tab_size, tab_size]
def more (c : BitVec 32) (l : List UInt8) : BitVec 32 := ~~~ (takes (~~~ c) l)

theorem not_u (x : Int) (c : BitVec 32) (h : x = (c.toNat : Int)) : bits BinOp.xor IntKind.u32 IntKind.u32.max x = ((~~~ c).toNat : Int) := by
  subst h
  have : IntKind.u32.max = (((4294967295#32 : BitVec 32).toNat : Nat) : Int) := by decide
  rw [this, xor_u]
  congr 1
theorem idx_u (n : BitVec 32) (b : UInt8) : bits BinOp.xor IntKind.u8 ((n.toNat : Int) / 16777216) (b.toNat : Int) = ((((n >>> 24).setWidth 8 ^^^ b.toBitVec).toNat : Nat) : Int) := by
  have e : (n.toNat : Int) / (16777216 : Int) = (((n >>> 24).setWidth 8).toNat : Int) := by
    rw [BitVec.toNat_setWidth, BitVec.toNat_ushiftRight, Nat.shiftRight_eq_div_pow]
    have := n.isLt
    omega
  rw [e, u8_xor_nat _ _ (by have := ((n >>> 24).setWidth 8).isLt; omega) (by have := b.toNat_lt; omega), BitVec.toNat_xor]
  rfl
theorem new_u (n : BitVec 32) (b : UInt8) : bits BinOp.xor IntKind.u32 ((n.toNat : Int) * 256 % 4294967296) ((eff ((n >>> 24).setWidth 8 ^^^ b.toBitVec)).toNat : Int) = ((take n b.toBitVec).toNat : Int) := by
  have e : (n.toNat : Int) * (256 : Int) % (4294967296 : Int) = ((n <<< 8).toNat : Int) := by
    rw [BitVec.toNat_shiftLeft, Nat.shiftLeft_eq]; omega
  rw [e, xor_u, take_table]
theorem take_snoc (s : ByteArray) (k : Nat) (h : k < s.size) : s.data.toList.take (k + 1) = s.data.toList.take k ++ [s[k]] := by
  rw [List.take_succ_eq_append_getElem (by simpa using h)]; rfl
theorem takes_snoc (n : BitVec 32) (l : List UInt8) (b : UInt8) : takes n (l ++ [b]) = take (takes n l) b.toBitVec := by
  simp [takes, List.foldl_append]

set_option maxHeartbeats 400000 in
set_option maxRecDepth 100000 in
theorem more_at (x : Int) (c : BitVec 32) (s : ByteArray) (w : World) (hx : x = (c.toNat : Int)) (hs : s.size ≤ maxLen) :
    Calls Try.prog 12 #[.int .u32 x, .string s] w fun e w' => e = .returned (.int .u32 ((more c s.data.toList).toNat : Int)) ∧ Below w.heap.size w w' := by
  unfold maxLen at hs
  have hz := zero_tab
  have x0 : 0 ≤ x := by omega
  have x1 : x ≤ 4294967295 := by have := c.isLt; omega
  have HX := Lib.hid hx
  clear hx
  go_enter Try.func12, Try.ntmps12
  go_wp2_with (first
    | (go_at_call 21; refine (lay_any _).mono ?_; rintro e w1 ⟨rfl, hb1⟩)
    | (refine wpList_store_row rfl 40 (.tmp 5) (.tmp 7) rfl _ (tab 256) rfl rfl 40 (tab 0) (heap_alloc_new _ _) (info_tab' 256) (tab_same 0 256) (tab_one 256) ?_))
  have hb2 : Below w.heap.size w ((w1.alloc (.cells (tab 0) 40)).setRow w1.heap.size (tab 256)) := below_setRow (hb1.alloc hb1.size _) hb1.size _
  have g2 : ((w1.alloc (.cells (tab 0) 40)).setRow w1.heap.size (tab 256)).heap[w1.heap.size]? = some (.cells (tab 256) 40 (0, 0)) := setRow_heap _ _ _ _ _ _ (heap_alloc_new _ _)
  generalize (w1.alloc (.cells (tab 0) 40)).setRow w1.heap.size (tab 256) = W2 at hb2 g2 ⊢
  have Hb2 := Lib.hid hb2
  have G2 := Lib.hid g2
  clear hb1 hb2 g2
  generalize w1.heap.size = B at G2 ⊢
  go_loop [0, 6, 12] (fun c' i12 i => ∃ k : Nat, k ≤ s.size ∧ i = .int .i64 k ∧ c' = .int .u32 ((takes (~~~ c) (s.data.toList.take k)).toNat : Int)) (fun _ _ i => s.size - (intOf i).toNat)
  case atStart =>
    exact ⟨0, by omega, rfl, by rw [not_u x c HX.out]; rfl⟩
  case round =>
    obtain ⟨k, hk, rfl, rfl⟩ := hrel
    by_cases hlt : k < s.size
    · have hn := Lib.hid (takes_snoc (~~~ c) (s.data.toList.take k) s[k])
      have ht := Lib.hid (take_snoc s k hlt)
      obtain ⟨n, en⟩ : ∃ n, takes (~~~ c) (s.data.toList.take k) = n := ⟨_, rfl⟩
      have En := Lib.hid en
      rw [en] at hn ⊢
      clear en
      have c0 : (0 : Int) ≤ (n.toNat : Int) := by omega
      have c1 : (n.toNat : Int) ≤ 4294967295 := by have := n.isLt; omega
      have hi := idx_u n s[k]
      obtain ⟨q, eq⟩ : ∃ q, ((n >>> 24).setWidth 8 ^^^ s[k].toBitVec).toNat = q := ⟨_, rfl⟩
      have hq : q < 256 := by have := ((n >>> 24).setWidth 8 ^^^ s[k].toBitVec).isLt; omega
      rw [eq] at hi
      have hc : W2.cell? ⟨B, q, none⟩ = some (.int .u32 ((eff (BitVec.ofNat 8 q)).toNat : Int)) := by
        rw [cell_of_row _ _ _ _ _ _ G2.out, tab_get 256 q hq, if_pos hq]
      have Eq := Lib.hid eq
      clear eq
      go_wp2
      go_round
      case rel =>
        refine ⟨k + 1, by omega, by go_num, ?_⟩
        rw [ht.out, hn.out, ← Eq.out, BitVec.ofNat_toNat, BitVec.setWidth_eq, new_u]
      case measure => simp [intOf]; omega
    · obtain rfl : k = s.size := by omega
      go_wp2
      go_ret
      refine ⟨?_, Hb2.out⟩
      have e : s.data.toList.take s.size = s.data.toList := List.take_of_length_le (by simp)
      rw [not_u _ _ rfl, e]; rfl

theorem sum_at (s : ByteArray) (w : World) (hs : s.size ≤ maxLen) :
    Calls Try.prog 10 #[.string s] w fun e w' => e = .returned (.int .u32 ((more 0#32 s.data.toList).toNat : Int)) ∧ Below w.heap.size w w' := by
  go_enter Try.func10, Try.ntmps10
  go_wp2_with (go_at_call 12; refine (more_at _ 0#32 _ _ rfl hs).mono ?_; rintro e w1 ⟨rfl, hb1⟩)
  go_ret
  exact ⟨rfl, by assumption⟩
end Crc
end Go.Proofs.Ytlfbkkfcbpallaa
