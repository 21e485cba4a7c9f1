/-
  CONTRACTS of package crc: effect, lay, More, Sum, Fold, Unfold, All.
-/
import Derived.Test.YtlfbkkfcbpallaaMath
import Derived.Test.YtlfbkkfcbpallaaRows
import Derived.WalkKit
import Derived.Lib.Hide
import Derived.WalkSpells
import Derived.WalkLawsBesides
namespace Go.Proofs.Ytlfbkkfcbpallaa
open Go.RowKit
namespace Crc

theorem and_hi (c : BitVec 32) : bits BinOp.and IntKind.u32 (c.toNat : Int) 2147483648 = if c.msb then 2147483648 else 0 := by
  rw [u32_and _ _ (by omega) (by have := c.isLt; omega) (by decide) (by decide)]
  have h := nat_bit 31 c.toNat
  simp only [Int.toNat_natCast, show (2147483648 : Int).toNat = 2 ^ 31 from rfl, h]
  rw [BitVec.msb_eq_decide]
  have := c.isLt
  by_cases h2 : 2 ^ 31 ≤ c.toNat
  · have : c.toNat / 2 ^ 31 % 2 = 1 := by omega
    simp [this, h2]
  · have : c.toNat / 2 ^ 31 % 2 = 0 := by omega
    simp [this]; omega

theorem shl1 (c : BitVec 32) : (c.toNat : Int) * (2 : Int) % (4294967296 : Int) = ((c <<< 1).toNat : Int) := by
  rw [BitVec.toNat_shiftLeft, Nat.shiftLeft_eq]; omega

theorem xor_u (a b : BitVec 32) : bits BinOp.xor IntKind.u32 (a.toNat : Int) (b.toNat : Int) = ((a ^^^ b).toNat : Int) := by
  rw [u32_xor_nat _ _ a.isLt b.isLt, BitVec.toNat_xor]

theorem step_hi (c : BitVec 32) (h : (bits BinOp.and IntKind.u32 (c.toNat : Int) 2147483648 != 0) = true) :
    bits BinOp.xor IntKind.u32 ((c.toNat : Int) * 2 % 4294967296) 79764919 = ((step c).toNat : Int) := by
  rw [and_hi] at h
  have hm : c.msb = true := by
    cases hc : c.msb with
    | true => rfl
    | false => rw [hc] at h; simp at h
  rw [shl1, show (79764919 : Int) = ((poly.toNat : Nat) : Int) from rfl, xor_u, step, if_pos hm]

theorem step_lo (c : BitVec 32) (h : (bits BinOp.and IntKind.u32 (c.toNat : Int) 2147483648 != 0) = false) :
    (c.toNat : Int) * 2 % 4294967296 = ((step c).toNat : Int) := by
  rw [and_hi] at h
  have hm : c.msb = false := by
    cases hc : c.msb with
    | false => rfl
    | true => rw [hc] at h; simp at h
  rw [shl1, step, if_neg (by simp [hm])]

set_option maxHeartbeats 400000 in
theorem effect_any (b : BitVec 8) (w : World) :
    Calls Try.prog 22 #[.int .u8 (b.toNat : Int)] w fun e w' => e = .returned (.int .u32 ((eff b).toNat : Int)) ∧ w = w' := by
  have h0 : (0 : Int) ≤ (b.toNat : Int) := by omega
  have h1 : (b.toNat : Int) ≤ 255 := by have := b.isLt; omega
  go_enter Try.func22, Try.ntmps22
  go_wp2
  go_loop [3, 7] (fun c i => ∃ k : Nat, k ≤ 8 ∧ i = .int .i64 k ∧ c = .int .u32 ((steps k (b.setWidth 32 <<< 24)).toNat : Int)) (fun _ i => 8 - (intOf i).toNat)
  case atStart =>
    refine ⟨0, by omega, rfl, ?_⟩
    simp only [steps]
    have : (b.toNat : Int) * (16777216 : Int) = ((b.setWidth 32 <<< 24).toNat : Int) := by
      rw [BitVec.toNat_shiftLeft, Nat.shiftLeft_eq, BitVec.toNat_setWidth]
      have := b.isLt
      omega
    rw [this]
  case round =>
    obtain ⟨k, hk, rfl, rfl⟩ := hrel
    have hs := steps_succ k (b.setWidth 32 <<< 24)
    have HS := Lib.hid hs
    clear hs
    have c0 : (0 : Int) ≤ ((steps k (b.setWidth 32 <<< 24)).toNat : Int) := by omega
    have c1 : ((steps k (b.setWidth 32 <<< 24)).toNat : Int) ≤ 4294967295 := by have := (steps k (b.setWidth 32 <<< 24)).isLt; omega
    go_wp2
    · go_round
      case rel => exact ⟨k + 1, by omega, by go_num, by rw [HS.out, step_hi _ ‹_›]⟩
      case measure => simp [intOf]; omega
    · go_round
      case rel => exact ⟨k + 1, by omega, by go_num, by rw [HS.out, step_lo _ ‹_›]⟩
      case measure => simp [intOf]; omega
    · have hk8 : k = 8 := by omega
      go_ret
      exact ⟨by rw [hk8]; rfl, rfl⟩

/-- the table as cells, the first n laid -/
def tab (n : Nat) : Array Value := (Array.range 256).map fun i => if i < n then .int .u32 ((eff (BitVec.ofNat 8 i)).toNat : Int) else .int .u32 0

theorem tab_size (n : Nat) : (tab n).size = 256 := by simp [tab]
theorem tab_get (n i : Nat) (hi : i < 256) : (tab n)[i]? = some (if i < n then .int .u32 ((eff (BitVec.ofNat 8 i)).toNat : Int) else .int .u32 0) := by
  simp [tab, hi]
theorem tab_one (n : Nat) : (tab n).all (·.oneCell') = true := by
  rw [Array.all_eq_true_iff_forall_mem]
  intro x hx
  simp only [tab, Array.mem_map] at hx
  obtain ⟨i, _, rfl⟩ := hx
  by_cases h : i < n
  · rw [if_pos h]; rfl
  · rw [if_neg h]; rfl
theorem tab_set (k : Nat) (hk : k < 256) : (tab k).setIfInBounds k (.int .u32 ((eff (BitVec.ofNat 8 k)).toNat : Int)) = tab (k + 1) := by
  apply Array.ext (by simp [tab])
  intro i h1 h2
  have hi : i < 256 := by simpa [tab] using h2
  have e1 := tab_get k i hi
  have e2 := tab_get (k + 1) i hi
  rw [Array.getElem?_eq_getElem h2] at e2
  have e2' := Option.some.inj e2
  have h3 : i < (tab k).size := by rw [tab_size]; exact hi
  rw [e2', Array.getElem_setIfInBounds h3]
  by_cases e : k = i
  · subst e; simp
  · rw [if_neg e]
    rw [Array.getElem?_eq_getElem h3] at e1
    rw [Option.some.inj e1]
    by_cases hlt : i < k
    · rw [if_pos hlt, if_pos (by omega)]
    · rw [if_neg hlt, if_neg (by omega)]

theorem effect_at (x : Int) (b : BitVec 8) (w : World) (hx : x = (b.toNat : Int)) :
    Calls Try.prog 22 #[.int .u8 x] w fun e w' => e = .returned (.int .u32 ((eff b).toNat : Int)) ∧ w = w' := by
  subst hx; exact effect_any b w

theorem below_setRow {B : Nat} {a w : World} (h : Below B a w) {g : Nat} (hg : B ≤ g) (cs : Array Value) : Below B a (w.setRow g cs) := by
  refine h.trans ⟨rfl, rfl, rfl, by simp, fun k hk => ?_⟩
  simp only [World.setRow, Array.getElem?_modify]
  rw [if_neg (by omega)]

theorem zero_tab (w : World) : (zeroValue 40).run Try.prog w = .ok (.agg (tab 0)) w := by kernel_rfl
theorem info_tab : (Try.prog.info? 40).map (·.size) = some 256 := by kernel_rfl

set_option maxHeartbeats 400000 in
set_option maxRecDepth 100000 in
theorem lay_any (w : World) :
    Calls Try.prog 21 #[.func (.func 22) #[] #[]] w fun e w' => e = .returned (.agg (tab 256)) ∧ Below w.heap.size w w' := by
  have hz := zero_tab
  go_enter Try.func21, Try.ntmps21
  go_wp2
  go_loopw [5] (fun i wr => ∃ k : Nat, k ≤ 256 ∧ i = .int .i64 k ∧ wr.heap[w.heap.size]? = some (.cells (tab 0) 40 (0, 0)) ∧ wr.heap[w.heap.size + 1]? = some (.cells (tab k) 40 (0, 0)) ∧ Below w.heap.size w wr) (fun i _ => 256 - (intOf i).toNat)
  case atStart =>
    refine ⟨0, by omega, rfl, ?_, ?_, ?_⟩
    · exact heap_alloc2_old _ _ _
    · exact heap_alloc2_new _ _ _
    · exact (((Below.refl _ _).alloc (Nat.le_refl _) _).alloc (by simp) _)
  case round =>
    obtain ⟨k, hk, rfl, g0, g1, hb⟩ := hrel
    by_cases hlt : k < 256
    · have hc : wr.cell? ⟨w.heap.size + 1, k, none⟩ = some (.int .u32 0) := by
        rw [cell_of_row _ _ _ _ _ _ g1, tab_get k k hlt]; simp
      have hf : wr.frozen? ⟨w.heap.size + 1, k, none⟩ = false := frozen_of_row _ _ _ _ _ g1
      have G0 := Lib.hid g0
      have G1 := Lib.hid g1
      clear g0 g1
      go_wp2_with (go_at_call 22; refine (effect_at _ (BitVec.ofNat 8 k) _ (by simp; omega)).mono ?_; rintro e w' ⟨rfl, rfl⟩)
      go_roundw
      case rel =>
        refine ⟨k + 1, by omega, by go_num, ?_, ?_, ?_⟩
        · rw [heap_setCell_other _ _ _ _ (by simp)]; exact G0.out
        · rw [heap_setCell_same _ _ _ _ _ _ G1.out, tab_set k hlt]
        · exact hb.setCell (by simp) _
      case measure => simp [intOf]; omega
    · obtain rfl : k = 256 := by omega
      have s256 : (Try.prog.info? 40).map (·.size) = some (tab 256).size := by rw [tab_size]; exact info_tab
      have one : (tab 256).all (·.oneCell') = true := tab_one 256
      have G0 := Lib.hid g0
      have G1 := Lib.hid g1
      have Hb := Lib.hid hb
      have S := Lib.hid s256
      have O := Lib.hid one
      clear g0 g1 hb s256 one
      go_wp2_with (first
        | (refine wpList_load_row rfl 40 _ rfl (w.heap.size + 1) rfl 40 (tab 256) (0, 0) _ G1.out Try.underlying40 rfl S.out ?_)
        | (refine wpList_store_row rfl 40 _ _ rfl w.heap.size (tab 256) rfl rfl 40 (tab 0) G0.out S.out (by rw [tab_size, tab_size]) O.out ?_))
      refine bodyPost_ret (results_cell_row rfl _ _ w.heap.size 40 (tab 256) (0, 0) _ rfl (setRow_heap _ _ _ _ _ _ G0.out) Try.underlying40 rfl S.out) rfl ⟨rfl, below_setRow Hb.out (Nat.le_refl _) _⟩

end Crc
end Go.Proofs.Ytlfbkkfcbpallaa
