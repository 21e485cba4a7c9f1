/-
  WALKS of stage 2: one bit; bits ahead and behind.
-/
import Derived.Test.YtabhnnighhglfaaRows
import Derived.Test.YtabhnnighhglfaaAby
import Derived.Test.YtabhnnighhglfaaBb
import Derived.Test.YtabhnnighhglfaaCm
import Derived.Test.YtabhnnighhglfaaCa
import Derived.Test.YtabhnnighhglfaaMa
import Derived.Test.YtabhnnighhglfaaMb
import Derived.Test.YtabhnnighhglfaaMc
import Derived.Test.YtabhnnighhglfaaMd
import Derived.Test.YtabhnnighhglfaaMe
import Derived.Test.YtabhnnighhglfaaMf
namespace Go.Proofs.Ytabhnnighhglfaa
open Go.RowKit
namespace Mg
open Ab Bm Bt Bb Cm Ca Ma Mb Mc Md Me Mf
theorem ag3 (w : World) : (isAgg 3).run Try.prog w = .ok false w := by kernel_rfl
theorem ag5 (w : World) : (isAgg 5).run Try.prog w = .ok false w := by kernel_rfl
theorem sz3 (w : World) : (sizeOf 3).run Try.prog w = .ok 1 w := by kernel_rfl
theorem sz5 (w : World) : (sizeOf 5).run Try.prog w = .ok 1 w := by kernel_rfl
theorem xor_u8 {P : Program} {t : TypeId} (x y : UInt8) (w : World) : (binOp .xor t (.int .u8 (x.toNat : Int)) (.int .u8 (y.toNat : Int))).run P w = .ok (.int .u8 ((x ^^^ y).toNat : Int)) w := by
  show (Op.intBits .xor .u8 (x.toNat : Int) (y.toNat : Int)).run P w = _
  have h1 : ∀ z : UInt8, BitVec.ofInt 8 (z.toNat : Int) = z.toBitVec := fun z => by
    rw [BitVec.ofInt_natCast]
    exact BitVec.ofNat_toNat _ _
  have h2 : IntKind.u8.wrap (((x.toBitVec ^^^ y.toBitVec).toNat : Nat) : Int) = ((x ^^^ y).toNat : Int) := by
    have : (x.toBitVec ^^^ y.toBitVec).toNat < 256 := (x.toBitVec ^^^ y.toBitVec).isLt
    rw [IntKind.wrap_u8]
    show _ = (((x.toBitVec ^^^ y.toBitVec).toNat : Nat) : Int)
    omega
  show (pure (Value.int .u8 (IntKind.u8.wrap (((BitVec.ofInt 8 (x.toNat : Int) ^^^ BitVec.ofInt 8 (y.toNat : Int)).toNat : Nat) : Int))) : Sem Value).run P w = _
  rw [h1, h1, h2]; rfl
/-- one bit of a byte, the highest one first -/
def mask (j : Nat) : UInt8 := UInt8.ofNat (2 ^ (7 - j))
theorem mask_at : ∀ j, j < 8 → Int.fdiv 128 (2 ^ min j 8) = ((mask j).toNat : Int) := by decide
theorem mask_of (k : Int) (_h : 0 ≤ k) : Int.fdiv 128 (2 ^ min (k % 8).toNat (IntKind.u8.bits)) = ((mask (k % 8).toNat).toNat : Int) := mask_at _ (by omega)
theorem xor_m {P : Program} {t : TypeId} (x : UInt8) (k : Int) (h : 0 ≤ k) (w : World) : (binOp .xor t (.int .u8 (x.toNat : Int)) (.int .u8 (Int.fdiv 128 (2 ^ min (k % 8).toNat (IntKind.u8.bits))))).run P w = .ok (.int .u8 ((x ^^^ mask (k % 8).toNat).toNat : Int)) w := by
  rw [mask_of k h]; exact xor_u8 _ _ w
theorem mask_bit (u : UInt8) : ∀ j, j < 8 → bitAt (u ^^^ mask j) j = !bitAt u j := fun j hj => by
  unfold bitAt
  rw [UInt8.toNat_xor, Nat.testBit_xor]
  have : (mask j).toNat.testBit (7 - j) = true := by
    have key : ∀ j, j < 8 → (mask j).toNat.testBit (7 - j) = true := by decide
    exact key j hj
  rw [this]; simp
/-- a text, one bit of which is turned -/
def turnS (s : ByteArray) (k : Int) : ByteArray := ⟨(s.data.toList.set (k / 8).toNat (s.data.toList.getD (k / 8).toNat 0 ^^^ mask (k % 8).toNat)).toArray⟩
theorem turnS_size (s : ByteArray) (k : Int) : (turnS s k).size = s.size := by
  show (s.data.toList.set _ _).length = s.size
  rw [List.length_set]; rfl
theorem turn_bit (s : ByteArray) (k : Nat) (h : k < 8 * s.size) : bit (turnS s (k : Int)).data.toList k = !bit s.data.toList k := by
  have hl : s.data.toList.length = s.size := rfl
  unfold bit
  show bitAt ((s.data.toList.set ((k : Int) / 8).toNat (s.data.toList.getD ((k : Int) / 8).toNat 0 ^^^ mask ((k : Int) % 8).toNat)).getD (k / 8) 0) (k % 8) = _
  rw [show ((k : Int) / 8).toNat = k / 8 by omega, show ((k : Int) % 8).toNat = k % 8 by omega]
  have : (s.data.toList.set (k / 8) (s.data.toList.getD (k / 8) 0 ^^^ mask (k % 8))).getD (k / 8) 0 = s.data.toList.getD (k / 8) 0 ^^^ mask (k % 8) := by
    rw [getD_lt _ _ _ (by rw [List.length_set]; omega), List.getElem_set_self]
  rw [this, mask_bit _ _ (by omega)]

theorem getV_b {s : ByteArray} {b : Nat} (h : b < 8 * s.size) : getV s (b : Int) 1 = (((Bm.bit s.data.toList b).toNat : Int), 0) := by
  rw [getV, if_neg (by rw [decide_eq_true (show (0 : Int) ≤ b by omega)]; decide), if_pos (by omega)]
  show (((val [Bm.bit s.data.toList (b + 0)] : Nat) : Int), (0 : Int)) = _
  simp [val]
theorem mat_1 {s : ByteArray} {b : Nat} (h : b < 8 * s.size) : matV s (b : Int) 1 1 = Bm.bit s.data.toList b := by
  rw [matV, getV_b h]
  cases Bm.bit s.data.toList b <;> decide
theorem mat_0 {s : ByteArray} {b : Nat} (h : b < 8 * s.size) : matV s (b : Int) 0 1 = !Bm.bit s.data.toList b := by
  rw [matV, getV_b h]
  cases Bm.bit s.data.toList b <;> decide
theorem mat_turn {s : ByteArray} {k : Nat} (h : k < 8 * s.size) : matV (turnS s (k : Int)) (k : Int) 1 1 = !matV s (k : Int) 1 1 := by
  rw [mat_1 h, mat_1 (by rw [turnS_size]; exact h), turn_bit s k h]
theorem pl_here {s : ByteArray} {m n : Int} {b : Nat} (hb : b < 8 * s.size) (h : matV s (b : Int) m n = true) : (plL s 0 m n b).length < (plZ s 0 m n).length ∧ (plZ s 0 m n).getD (plL s 0 m n b).length 0 = (b : Int) := by
  have hc : (decide ((0 : Int) ≤ (b : Int)) && matV s (b : Int) m n) = true := by rw [h, decide_eq_true (show (0 : Int) ≤ (b : Int) by omega)]; rfl
  have h1 := plL_lt hb hc
  have h2 := plL_at hb hc
  have h3 : (plL s 0 m n b).length < (plZ s 0 m n).length := by rw [plZ_len]; exact h1
  exact ⟨h3, by rw [plZ_at h3, h2]⟩

set_option maxRecDepth 100000 in
set_option maxHeartbeats 1000000 in
theorem ones_law (s : ByteArray) (hs : s.size ≤ 9223372036854775807) (a0 : Int) (wa0 : -9223372036854775808 ≤ a0 ∧ a0 ≤ 9223372036854775807) :
    FPure Try.prog 7 [Is (.string s), Is (.int .i64 a0)] (Is (.bool true)) := by
  refine FPure.of Try.func7 Try.ntmps7 rfl (by kernel_rfl) rfl rfl rfl ?_
  refine W_seq ?_
  refine W_regionE (c := 1) (c' := 2) (by kernel_rfl) rfl ?_
  refine Runs_p rfl (Valid.assignk (A := Is _) rfl rfl) rfl rfl ?_ -- law.go:132 assign
  refine Runs_nil ?_
  refine thenQ_n ?_
  refine W_seq ?_
  refine W_regionE (c := 2) (c' := 4) (by kernel_rfl) rfl ?_
  refine Runs_p rfl (Valid.call rfl (awake2_s) trivial) rfl rfl ?_ -- law.go:133 call
  refine Runs_p rfl (Valid.assignk (A := Is _) rfl rfl) rfl rfl ?_ -- law.go:133 assign
  refine Runs_nil ?_
  refine thenQ_n ?_
  refine W_seq ?_
  refine W_regionE (c := 4) (c' := 10) (by kernel_rfl) rfl ?_
  refine Runs_p rfl (Valid.movek (A := Is _) rfl rfl) rfl rfl ?_ -- law.go:134 move
  refine Runs_p rfl (Valid.movek (A := Is _) rfl rfl) rfl rfl ?_ -- law.go:134 move
  refine Runs_p rfl (Valid.slen rfl Try.underlying9 rfl) rfl rfl ?_ -- law.go:134 call
  refine Runs_p rfl (Valid.min rfl rfl rfl) rfl rfl ?_ -- law.go:134 call
  refine Runs_p rfl (Valid.ssliceto rfl Try.underlying9 rfl rfl (by first | omega | (simp only [Int.toNat_natCast, toNat_add, toNat_add1, List.length_append, List.length_cons, List.length_nil, List.length_replicate]; omega))) rfl rfl ?_ -- law.go:134 slice
  refine Runs_p rfl (Valid.assignk (A := Is _) rfl rfl) rfl rfl ?_ -- law.go:134 assign
  refine Runs_nil ?_
  refine thenQ_n ?_
  refine W_seq ?_
  have hxs : (s.extract 0 (min (s.size : Int) 40).toNat).size ≤ 40 := by rw [ByteArray.size_extract]; omega
  generalize (s.extract 0 (min (s.size : Int) 40).toNat) = x at *
  have hz1 := plZ_le x 0 1 1
  have hz0 := plZ_le x 0 0 1
  refine W_regionE (c := 10) (c' := 13) (by kernel_rfl) rfl ?_
  refine Runs_p rfl (Valid.movek (A := Is _) rfl rfl) rfl rfl ?_ -- law.go:135 move
  refine Runs_p rfl (Valid.call rfl (all_z x 1 (by decide) 1 (by decide) (by omega)) ⟨argle rfl, argle rfl, argle rfl, trivial⟩) rfl rfl ?_ -- law.go:135 call
  refine Runs_p rfl (Valid.assignk (A := Sl 1 _ _) rfl rfl) rfl rfl ?_ -- law.go:135 assign
  refine Runs_nil ?_
  refine thenQ_n ?_
  refine W_seq ?_
  refine W_regionE (c := 13) (c' := 16) (by kernel_rfl) rfl ?_
  refine Runs_p rfl (Valid.movek (A := Is _) rfl rfl) rfl rfl ?_ -- law.go:136 move
  refine Runs_p rfl (Valid.call rfl (all_z x 0 (by decide) 1 (by decide) (by omega)) ⟨argle rfl, argle rfl, argle rfl, trivial⟩) rfl rfl ?_ -- law.go:136 call
  refine Runs_p rfl (Valid.assignk (A := Sl 1 _ _) rfl rfl) rfl rfl ?_ -- law.go:136 assign
  refine Runs_nil ?_
  refine thenQ_n ?_
  refine W_seq ?_
  refine W_regionE (c := 16) (c' := 17) (by kernel_rfl) rfl ?_
  refine Runs_p rfl (Valid.assignk (A := Is _) rfl rfl) rfl rfl ?_ -- law.go:137 assign
  refine Runs_nil ?_
  refine thenQ_n ?_
  refine W_seq ?_
  refine W_regionE (c := 17) (c' := 18) (by kernel_rfl) rfl ?_
  refine Runs_p rfl (Valid.assignk (A := Is _) rfl rfl) rfl rfl ?_ -- law.go:138 assign
  refine Runs_nil ?_
  refine thenQ_n ?_
  refine W_seq ?_
  refine W_seq ?_
  refine W_regionE (c := 18) (c' := 19) (by kernel_rfl) rfl ?_
  refine Runs_p rfl (Valid.assignk (A := Is _) rfl rfl) rfl rfl ?_ -- law.go:139 assign
  refine Runs_nil ?_
  refine thenQ_n ?_
  refine W_block ?_
  refine W_loopx (G := Nat) (fun (b : Nat) => b ≤ 8 * x.size) [(1, Is _), (5, Is _), (6, Is _), (7, Sl 1 _ _), (8, Sl 1 _ _)] (fun (b : Nat) => [(11, Is (.int .i64 (b : Int))), (9, Is (.int .i64 ((plL x 0 1 1 b).length : Int))), (10, Is (.int .i64 ((plL x 0 0 1 b).length : Int)))]) [] (fun (b : Nat) => []) 19 (fun (b : Nat) => 8 * x.size - b) (0) [] (by first | trivial | omega | (simp; omega)) ⟨⟨(leq_is rfl rfl (by first | rfl)), (leq_is rfl rfl (by first | rfl)), (leq_is rfl rfl (by first | rfl)), trivial⟩, ⟨(leq_is rfl rfl rfl), (leq_is rfl rfl rfl), (leq_is rfl rfl rfl), (leq_sl (Reads.sl rfl) rfl rfl rfl), (leq_sl (Reads.sl rfl) rfl rfl rfl), trivial⟩, trivial, trivial, rfl, ⟨supg rfl, supg rfl, supg rfl, trivial⟩, ⟨supg rfl, supg rfl, supg rfl, supg rfl, supg rfl, trivial⟩, trivial, trivial, rfl, rfl⟩ ?_
  intro b hI1
  have hp1 := plL_le x 0 1 1 b
  have hp0 := plL_le x 0 0 1 b
  refine W_seq ?_
  refine W_seq ?_
  refine W_regionE (c := 19) (c' := 24) (by kernel_rfl) rfl ?_
  refine Runs_p rfl (Valid.movek (A := Is _) rfl rfl) rfl rfl ?_ -- law.go:139 move
  refine Runs_p rfl (Valid.movek (A := Is _) rfl rfl) rfl rfl ?_ -- law.go:139 move
  refine Runs_p rfl (Valid.slen rfl Try.underlying9 rfl) rfl rfl ?_ -- law.go:139 call
  refine Runs_p rfl (Valid.mul rfl rfl rfl (room64 (by first | omega | (simp only [Int.toNat_natCast, toNat_add, toNat_add1, List.length_append, List.length_cons, List.length_nil, List.length_replicate]; omega)) (by first | omega | (simp only [Int.toNat_natCast, toNat_add, toNat_add1, List.length_append, List.length_cons, List.length_nil, List.length_replicate]; omega)))) rfl rfl ?_ -- law.go:139 binOp
  refine Runs_p rfl (Valid.lss rfl rfl rfl) rfl rfl ?_ -- law.go:139 binOp
  refine Runs_nil ?_
  refine thenQ_n ?_
  refine W_cond _ rfl (fun hb1 => ?_) (fun hb1 => ?_)
  · try simp only [decide_eq_true_eq] at hb1
    all_goals (
      refine W_skip ?_
      refine thenQ_n ?_
      refine W_seq ?_
      refine W_block ?_
      refine W_seq ?_
      have hbx : b < 8 * x.size := by omega
      have hgb := getV_b hbx
      have hm1 := mat_1 hbx
      have hm0 := mat_0 hbx
      refine W_regionE (c := 24) (c' := 32) (by kernel_rfl) rfl ?_
      refine Runs_p rfl (Valid.movek (A := Is _) rfl rfl) rfl rfl ?_ -- law.go:140 move
      refine Runs_p rfl (Valid.movek (A := Is _) rfl rfl) rfl rfl ?_ -- law.go:140 move
      refine Runs_p rfl (Valid.call rfl (get_f _ _ _ (by omega) (by omega)) ⟨argle rfl, argle rfl, argle rfl, trivial⟩) rfl rfl ?_ -- law.go:140 call
      refine Runs_p rfl (Valid.movek (A := Tup [Is _, Is _]) rfl rfl) rfl rfl ?_ -- law.go:140 move
      refine Runs_p rfl (Valid.extract _ rfl rfl rfl) rfl rfl ?_ -- law.go:140 extract
      refine Runs_p rfl (Valid.extract _ rfl rfl rfl) rfl rfl ?_ -- law.go:140 extract
      refine Runs_p rfl (Valid.assignk (A := Is _) rfl rfl) rfl rfl ?_ -- law.go:140 assign
      refine Runs_p rfl (Valid.assignk (A := Is _) rfl rfl) rfl rfl ?_ -- law.go:140 assign
      refine Runs_nil ?_
      refine thenQ_n ?_
      refine W_seq ?_
      refine W_seq ?_
      refine W_regionE (c := 32) (c' := 34) (by kernel_rfl) rfl ?_
      refine Runs_p rfl (Valid.movek (A := Is _) rfl rfl) rfl rfl ?_ -- law.go:141 move
      refine Runs_p rfl (Valid.neq rfl rfl rfl) rfl rfl ?_ -- law.go:141 binOp
      refine Runs_nil ?_
      refine thenQ_n ?_
      refine W_cond _ rfl (fun hb2 => ?_) (fun hb2 => ?_)
      · try simp only [decide_eq_true_eq, ne_eq] at hb2
        all_goals (
          exfalso
          rw [hgb] at hb2
          exact hb2 rfl
          
          done)
      · try simp only [decide_eq_false_iff_not, ne_eq] at hb2
        all_goals (
          refine W_skip ?_
          refine thenQ_n ?_
          refine W_seq ?_
          rw [hgb]
          generalize hbit : Bm.bit x.data.toList b = v at *
          refine W_regionE (c := 34) (c' := 36) (by kernel_rfl) rfl ?_
          refine Runs_p rfl (Valid.movek (A := Is _) rfl rfl) rfl rfl ?_ -- law.go:144 move
          refine Runs_p rfl (Valid.eql rfl rfl rfl) rfl rfl ?_ -- law.go:144 binOp
          refine Runs_nil ?_
          refine thenQ_n ?_
          refine W_cond _ rfl (fun hb3 => ?_) (fun hb3 => ?_)
          · try simp only [decide_eq_true_eq] at hb3
            all_goals (
              refine W_seq ?_
              refine W_seq ?_
              obtain rfl : v = true := by
                cases v
                · simp at hb3
                · rfl
              obtain ⟨q1, q2⟩ := pl_here hbx hm1
              have e1 := pl_yl hm1
              have e0 := pl_n hm0
              refine W_regionE (c := 36) (c' := 48) (by kernel_rfl) rfl ?_
              refine Runs_p rfl (Valid.movek (A := Is _) rfl rfl) rfl rfl ?_ -- law.go:145 move
              refine Runs_p rfl (Valid.movek (A := Sl 1 _ _) rfl rfl) rfl rfl ?_ -- law.go:145 move
              refine Runs_p rfl (Valid.len rfl Try.underlying25 (Reads.sl rfl)) rfl rfl ?_ -- law.go:145 call
              refine Runs_p rfl (Valid.geq rfl rfl rfl) rfl rfl ?_ -- law.go:145 binOp
              refine Runs_p rfl (Valid.movek (A := Is _) rfl rfl) rfl rfl ?_ -- law.go:145 move
              refine Runs_cnd rfl rfl (Grd.is rfl) [] (fun hg => trivial) (fun hg => Valid.movek (A := Sl 1 _ _) rfl rfl) (by rfl) rfl ?_
              refine Runs_cnd rfl rfl (Grd.is rfl) [] (fun hg => trivial) (fun hg => Valid.movek (A := Is _) rfl rfl) (by rfl) rfl ?_
              refine Runs_cnd rfl rfl (Grd.is rfl) [(48, _), (49, _)] (fun hg => ⟨cnd_at rfl (by first | exact hg | exact hg.1 | exact hg.1.1 | exact hg.1.1.1), cnd_at rfl (by first | exact hg | exact hg.1 | exact hg.1.1 | exact hg.1.1.1), trivial⟩) (fun hg => Valid.eltaddr1 0 rfl Try.underlying25 sz3 (Reads.sl rfl) rfl (by (try simp only [decide_eq_false_iff_not] at hg); first | omega | (simp only [Int.toNat_natCast, toNat_add, toNat_add1, List.length_append, List.length_cons, List.length_nil, List.length_replicate]; omega)) (by first | rfl | simp)) (by rfl) rfl ?_
              refine Runs_cnd rfl rfl (Grd.is rfl) [(50, _)] (fun hg => ⟨cnd_at rfl (by first | exact hg | exact hg.1 | exact hg.1.1 | exact hg.1.1.1), trivial⟩) (fun hg => Valid.loadelt rfl ag3 rfl) (by rfl) rfl ?_
              refine Runs_cnd rfl rfl (Grd.is rfl) [] (fun hg => trivial) (fun hg => Valid.movek (A := Is _) rfl rfl) (by rfl) rfl ?_
              refine Runs_cnd rfl rfl (Grd.is rfl) [(51, _), (52, _)] (fun hg => ⟨cnd_at rfl (by first | exact hg | exact hg.1 | exact hg.1.1 | exact hg.1.1.1), cnd_at rfl (by first | exact hg | exact hg.1 | exact hg.1.1 | exact hg.1.1.1), trivial⟩) (fun hg => Valid.neq rfl rfl rfl) (by rfl) rfl ?_
              refine Runs_p rfl (Valid.pickor rfl rfl rfl rfl (fun h => by first | exact h | exact ⟨hg, h⟩)) rfl rfl ?_ -- law.go:145 pick
              refine Runs_nil ?_
              refine thenQ_n ?_
              refine W_cond _ rfl (fun hb4 => ?_) (fun hb4 => ?_)
              · try simp only [Int.toNat_natCast, decide_eq_true_eq, Bool.or_eq_true, ne_eq] at hb4
                all_goals (
                  exfalso
                  rcases hb4 with h | h
                  · omega
                  · exact h q2
                  
                  done)
              · try simp only [Int.toNat_natCast, decide_eq_false_iff_not, Bool.or_eq_false_iff, ne_eq] at hb4
                all_goals (
                  refine W_skip ?_
                  refine thenQ_n ?_
                  refine W_regionE (c := 48) (c' := 51) (by kernel_rfl) rfl ?_
                  refine Runs_p rfl (Valid.movek (A := Is _) rfl rfl) rfl rfl ?_ -- law.go:148 move
                  refine Runs_p rfl (Valid.add rfl rfl rfl (room64 (by first | omega | (simp only [Int.toNat_natCast, toNat_add, toNat_add1, List.length_append, List.length_cons, List.length_nil, List.length_replicate]; omega)) (by first | omega | (simp only [Int.toNat_natCast, toNat_add, toNat_add1, List.length_append, List.length_cons, List.length_nil, List.length_replicate]; omega)))) rfl rfl ?_ -- law.go:148 binOp
                  refine Runs_p rfl (Valid.assignk (A := Is _) rfl rfl) rfl rfl ?_ -- law.go:148 assign
                  refine Runs_nil ?_
                  refine blockQ_n ?_
                  refine thenQ_n ?_
                  refine W_regionE (c := 51) (c' := 54) (by kernel_rfl) rfl ?_
                  refine Runs_p rfl (Valid.movek (A := Is _) rfl rfl) rfl rfl ?_ -- law.go:139 move
                  refine Runs_p rfl (Valid.add rfl rfl rfl (room64 (by first | omega | (simp only [Int.toNat_natCast, toNat_add, toNat_add1, List.length_append, List.length_cons, List.length_nil, List.length_replicate]; omega)) (by first | omega | (simp only [Int.toNat_natCast, toNat_add, toNat_add1, List.length_append, List.length_cons, List.length_nil, List.length_replicate]; omega)))) rfl rfl ?_ -- law.go:139 binOp
                  refine Runs_p rfl (Valid.assignk (A := Is _) rfl rfl) rfl rfl ?_ -- law.go:139 assign
                  refine Runs_nil ?_
                  refine LoopQ.next (b + 1) [] (by omega) (by omega) ⟨⟨(leq_is rfl rfl (by first | rfl | exact congrArg (Value.int .i64) (by omega) | exact congrArg (fun z : Nat => Value.int .i64 (z : Int)) e1 | (rw [e0]))), (leq_is rfl rfl (by first | rfl | exact congrArg (Value.int .i64) (by omega) | exact congrArg (fun z : Nat => Value.int .i64 (z : Int)) e1 | (rw [e0]))), (leq_is rfl rfl (by first | rfl | exact congrArg (Value.int .i64) (by omega) | exact congrArg (fun z : Nat => Value.int .i64 (z : Int)) e1 | (rw [e0]))), trivial⟩, ⟨(leq_is rfl rfl rfl), (leq_is rfl rfl rfl), (leq_is rfl rfl rfl), (leq_sl (Reads.sl rfl) rfl rfl rfl), (leq_sl (Reads.sl rfl) rfl rfl rfl), trivial⟩, trivial, trivial, rfl, ⟨supg rfl, supg rfl, supg rfl, trivial⟩, ⟨supg rfl, supg rfl, supg rfl, supg rfl, supg rfl, trivial⟩, trivial, trivial, rfl, rfl⟩
                  done)
              done)
          · try simp only [decide_eq_false_iff_not] at hb3
            all_goals (
              refine W_seq ?_
              refine W_seq ?_
              obtain rfl : v = false := by
                cases v
                · rfl
                · exact absurd rfl hb3
              obtain ⟨q1, q2⟩ := pl_here hbx hm0
              have e1 := pl_yl hm0
              have e0 := pl_n hm1
              refine W_regionE (c := 36) (c' := 48) (by kernel_rfl) rfl ?_
              refine Runs_p rfl (Valid.movek (A := Is _) rfl rfl) rfl rfl ?_ -- law.go:150 move
              refine Runs_p rfl (Valid.movek (A := Sl 1 _ _) rfl rfl) rfl rfl ?_ -- law.go:150 move
              refine Runs_p rfl (Valid.len rfl Try.underlying25 (Reads.sl rfl)) rfl rfl ?_ -- law.go:150 call
              refine Runs_p rfl (Valid.geq rfl rfl rfl) rfl rfl ?_ -- law.go:150 binOp
              refine Runs_p rfl (Valid.movek (A := Is _) rfl rfl) rfl rfl ?_ -- law.go:150 move
              refine Runs_cnd rfl rfl (Grd.is rfl) [] (fun hg => trivial) (fun hg => Valid.movek (A := Sl 1 _ _) rfl rfl) (by rfl) rfl ?_
              refine Runs_cnd rfl rfl (Grd.is rfl) [] (fun hg => trivial) (fun hg => Valid.movek (A := Is _) rfl rfl) (by rfl) rfl ?_
              refine Runs_cnd rfl rfl (Grd.is rfl) [(62, _), (63, _)] (fun hg => ⟨cnd_at rfl (by first | exact hg | exact hg.1 | exact hg.1.1 | exact hg.1.1.1), cnd_at rfl (by first | exact hg | exact hg.1 | exact hg.1.1 | exact hg.1.1.1), trivial⟩) (fun hg => Valid.eltaddr1 0 rfl Try.underlying25 sz3 (Reads.sl rfl) rfl (by (try simp only [decide_eq_false_iff_not] at hg); first | omega | (simp only [Int.toNat_natCast, toNat_add, toNat_add1, List.length_append, List.length_cons, List.length_nil, List.length_replicate]; omega)) (by first | rfl | simp)) (by rfl) rfl ?_
              refine Runs_cnd rfl rfl (Grd.is rfl) [(64, _)] (fun hg => ⟨cnd_at rfl (by first | exact hg | exact hg.1 | exact hg.1.1 | exact hg.1.1.1), trivial⟩) (fun hg => Valid.loadelt rfl ag3 rfl) (by rfl) rfl ?_
              refine Runs_cnd rfl rfl (Grd.is rfl) [] (fun hg => trivial) (fun hg => Valid.movek (A := Is _) rfl rfl) (by rfl) rfl ?_
              refine Runs_cnd rfl rfl (Grd.is rfl) [(65, _), (66, _)] (fun hg => ⟨cnd_at rfl (by first | exact hg | exact hg.1 | exact hg.1.1 | exact hg.1.1.1), cnd_at rfl (by first | exact hg | exact hg.1 | exact hg.1.1 | exact hg.1.1.1), trivial⟩) (fun hg => Valid.neq rfl rfl rfl) (by rfl) rfl ?_
              refine Runs_p rfl (Valid.pickor rfl rfl rfl rfl (fun h => by first | exact h | exact ⟨hg, h⟩)) rfl rfl ?_ -- law.go:150 pick
              refine Runs_nil ?_
              refine thenQ_n ?_
              refine W_cond _ rfl (fun hb5 => ?_) (fun hb5 => ?_)
              · try simp only [Int.toNat_natCast, decide_eq_true_eq, Bool.or_eq_true, ne_eq] at hb5
                all_goals (
                  exfalso
                  rcases hb5 with h | h
                  · omega
                  · exact h q2
                  
                  done)
              · try simp only [Int.toNat_natCast, decide_eq_false_iff_not, Bool.or_eq_false_iff, ne_eq] at hb5
                all_goals (
                  refine W_skip ?_
                  refine thenQ_n ?_
                  refine W_regionE (c := 48) (c' := 51) (by kernel_rfl) rfl ?_
                  refine Runs_p rfl (Valid.movek (A := Is _) rfl rfl) rfl rfl ?_ -- law.go:153 move
                  refine Runs_p rfl (Valid.add rfl rfl rfl (room64 (by first | omega | (simp only [Int.toNat_natCast, toNat_add, toNat_add1, List.length_append, List.length_cons, List.length_nil, List.length_replicate]; omega)) (by first | omega | (simp only [Int.toNat_natCast, toNat_add, toNat_add1, List.length_append, List.length_cons, List.length_nil, List.length_replicate]; omega)))) rfl rfl ?_ -- law.go:153 binOp
                  refine Runs_p rfl (Valid.assignk (A := Is _) rfl rfl) rfl rfl ?_ -- law.go:153 assign
                  refine Runs_nil ?_
                  refine blockQ_n ?_
                  refine thenQ_n ?_
                  refine W_regionE (c := 51) (c' := 54) (by kernel_rfl) rfl ?_
                  refine Runs_p rfl (Valid.movek (A := Is _) rfl rfl) rfl rfl ?_ -- law.go:139 move
                  refine Runs_p rfl (Valid.add rfl rfl rfl (room64 (by first | omega | (simp only [Int.toNat_natCast, toNat_add, toNat_add1, List.length_append, List.length_cons, List.length_nil, List.length_replicate]; omega)) (by first | omega | (simp only [Int.toNat_natCast, toNat_add, toNat_add1, List.length_append, List.length_cons, List.length_nil, List.length_replicate]; omega)))) rfl rfl ?_ -- law.go:139 binOp
                  refine Runs_p rfl (Valid.assignk (A := Is _) rfl rfl) rfl rfl ?_ -- law.go:139 assign
                  refine Runs_nil ?_
                  refine LoopQ.next (b + 1) [] (by omega) (by omega) ⟨⟨(leq_is rfl rfl (by first | rfl | exact congrArg (Value.int .i64) (by omega) | exact congrArg (fun z : Nat => Value.int .i64 (z : Int)) e1 | (rw [e0]))), (leq_is rfl rfl (by first | rfl | exact congrArg (Value.int .i64) (by omega) | exact congrArg (fun z : Nat => Value.int .i64 (z : Int)) e1 | (rw [e0]))), (leq_is rfl rfl (by first | rfl | exact congrArg (Value.int .i64) (by omega) | exact congrArg (fun z : Nat => Value.int .i64 (z : Int)) e1 | (rw [e0]))), trivial⟩, ⟨(leq_is rfl rfl rfl), (leq_is rfl rfl rfl), (leq_is rfl rfl rfl), (leq_sl (Reads.sl rfl) rfl rfl rfl), (leq_sl (Reads.sl rfl) rfl rfl rfl), trivial⟩, trivial, trivial, rfl, ⟨supg rfl, supg rfl, supg rfl, trivial⟩, ⟨supg rfl, supg rfl, supg rfl, supg rfl, supg rfl, trivial⟩, trivial, trivial, rfl, rfl⟩
                  done)
              done)
          done)
      done)
  · try simp only [decide_eq_false_iff_not] at hb1
    all_goals (
      refine W_exit ?_
      refine thenQ_e ?_
      refine loopQ_e ?_
      refine blockQ_x ?_
      refine thenQ_n ?_
      refine W_seq ?_
      refine W_seq ?_
      have hbe : b = 8 * x.size := by omega
      subst hbe
      rw [← plZ_len, ← plZ_len]
      refine W_regionE (c := 24) (c' := 38) (by kernel_rfl) rfl ?_
      refine Runs_p rfl (Valid.movek (A := Is _) rfl rfl) rfl rfl ?_ -- law.go:156 move
      refine Runs_p rfl (Valid.movek (A := Sl 1 _ _) rfl rfl) rfl rfl ?_ -- law.go:156 move
      refine Runs_p rfl (Valid.len rfl Try.underlying25 (Reads.sl rfl)) rfl rfl ?_ -- law.go:156 call
      refine Runs_p rfl (Valid.neq rfl rfl rfl) rfl rfl ?_ -- law.go:156 binOp
      refine Runs_p rfl (Valid.movek (A := Is _) rfl rfl) rfl rfl ?_ -- law.go:156 move
      refine Runs_cnd rfl rfl (Grd.is rfl) [] (fun hg => trivial) (fun hg => Valid.movek (A := Is _) rfl rfl) (by rfl) rfl ?_
      refine Runs_cnd rfl rfl (Grd.is rfl) [] (fun hg => trivial) (fun hg => Valid.movek (A := Sl 1 _ _) rfl rfl) (by rfl) rfl ?_
      refine Runs_cnd rfl rfl (Grd.is rfl) [(77, _)] (fun hg => ⟨cnd_at rfl (by first | exact hg | exact hg.1 | exact hg.1.1 | exact hg.1.1.1), trivial⟩) (fun hg => Valid.len rfl Try.underlying25 (Reads.sl rfl)) (by rfl) rfl ?_
      refine Runs_cnd rfl rfl (Grd.is rfl) [(76, _), (78, _)] (fun hg => ⟨cnd_at rfl (by first | exact hg | exact hg.1 | exact hg.1.1 | exact hg.1.1.1), cnd_at rfl (by first | exact hg | exact hg.1 | exact hg.1.1 | exact hg.1.1.1), trivial⟩) (fun hg => Valid.neq rfl rfl rfl) (by rfl) rfl ?_
      refine Runs_p rfl (Valid.pickor rfl rfl rfl rfl (fun h => by first | exact h | exact ⟨hg, h⟩)) rfl rfl ?_ -- law.go:156 pick
      refine Runs_p rfl (Valid.movek (A := Is _) rfl rfl) rfl rfl ?_ -- law.go:156 move
      refine Runs_cnd rfl rfl (Grd.is rfl) [] (fun hg => trivial) (fun hg => Valid.movek (A := Is _) rfl rfl) (by rfl) rfl ?_
      refine Runs_cnd rfl rfl (Grd.is rfl) [(82, _)] (fun hg => ⟨cnd_at rfl (by first | exact hg | exact hg.1 | exact hg.1.1 | exact hg.1.1.1), trivial⟩) (fun hg => Valid.seql rfl rfl rfl) (by rfl) rfl ?_
      refine Runs_p rfl (Valid.pickor rfl rfl rfl rfl (fun h => by first | exact h | exact ⟨hg, h⟩)) rfl rfl ?_ -- law.go:156 pick
      refine Runs_nil ?_
      refine thenQ_n ?_
      refine W_cond _ rfl (fun hb6 => ?_) (fun hb6 => ?_)
      · try simp only [decide_eq_true_eq, Bool.or_eq_true, not_true_eq_false, ne_eq] at hb6
        all_goals (
          refine W_seq ?_
          refine W_regionE (c := 38) (c' := 52) (by kernel_rfl) rfl ?_
          refine Runs_p rfl (Valid.movek (A := Is _) rfl rfl) rfl rfl ?_ -- law.go:157 move
          refine Runs_p rfl (Valid.movek (A := Is _) rfl rfl) rfl rfl ?_ -- law.go:157 move
          refine Runs_cnd rfl rfl (Grd.is rfl) [] (fun hg => trivial) (fun hg => Valid.movek (A := Is _) rfl rfl) (by rfl) rfl ?_
          refine Runs_cnd rfl rfl (Grd.is rfl) [] (fun hg => trivial) (fun hg => Valid.movek (A := Sl 1 _ _) rfl rfl) (by rfl) rfl ?_
          refine Runs_cnd rfl rfl (Grd.is rfl) [(88, _)] (fun hg => ⟨cnd_at rfl (by first | exact hg | exact hg.1 | exact hg.1.1 | exact hg.1.1.1), trivial⟩) (fun hg => Valid.len rfl Try.underlying25 (Reads.sl rfl)) (by rfl) rfl ?_
          refine Runs_cnd rfl rfl (Grd.is rfl) [(87, _), (89, _)] (fun hg => ⟨cnd_at rfl (by first | exact hg | exact hg.1 | exact hg.1.1 | exact hg.1.1.1), cnd_at rfl (by first | exact hg | exact hg.1 | exact hg.1.1 | exact hg.1.1.1), trivial⟩) (fun hg => Valid.eql rfl rfl rfl) (by rfl) rfl ?_
          refine Runs_p rfl (Valid.pickand rfl rfl rfl (fun h => by first | exact h | exact ⟨hg, h⟩) rfl) rfl rfl ?_ -- law.go:157 pick
          refine Runs_p rfl (Valid.movek (A := Is _) rfl rfl) rfl rfl ?_ -- law.go:157 move
          refine Runs_cnd rfl rfl (Grd.is rfl) [] (fun hg => trivial) (fun hg => Valid.movek (A := Is _) rfl rfl) (by rfl) rfl ?_
          refine Runs_cnd rfl rfl (Grd.is rfl) [] (fun hg => trivial) (fun hg => Valid.movek (A := Sl 1 _ _) rfl rfl) (by rfl) rfl ?_
          refine Runs_cnd rfl rfl (Grd.is rfl) [(94, _)] (fun hg => ⟨cnd_at rfl (by first | exact hg | exact hg.1 | exact hg.1.1 | exact hg.1.1.1), trivial⟩) (fun hg => Valid.len rfl Try.underlying25 (Reads.sl rfl)) (by rfl) rfl ?_
          refine Runs_cnd rfl rfl (Grd.is rfl) [(93, _), (95, _)] (fun hg => ⟨cnd_at rfl (by first | exact hg | exact hg.1 | exact hg.1.1 | exact hg.1.1.1), cnd_at rfl (by first | exact hg | exact hg.1 | exact hg.1.1 | exact hg.1.1.1), trivial⟩) (fun hg => Valid.eql rfl rfl rfl) (by rfl) rfl ?_
          refine Runs_p rfl (Valid.pickand rfl rfl rfl (fun h => by first | exact h | exact ⟨hg, h⟩) rfl) rfl rfl ?_ -- law.go:157 pick
          refine Runs_p rfl (Valid.assignk (A := Is _) rfl rfl) rfl rfl ?_ -- law.go:157 assign
          refine Runs_nil ?_
          refine thenQ_n ?_
          refine W_ret ?_
          refine thenQ_r ?_
          refine finQ_r ?_
          refine ResOk.one rfl (RVal.is rfl rfl (by first | (rw [hmt]; simp; done) | (simp; done)))
          done)
      · try simp only [decide_eq_false_iff_not, Bool.or_eq_false_iff, not_true_eq_false, not_false_eq_true, ne_eq] at hb6
        all_goals (
          refine W_skip ?_
          refine thenQ_n ?_
          refine W_seq ?_
          have hxp : 0 < x.size := by
            apply Nat.pos_of_ne_zero
            intro h0
            exact hb6.2 (ByteArray.ext (Array.eq_empty_of_size_eq_zero h0))
          refine W_regionE (c := 38) (c' := 44) (by kernel_rfl) rfl ?_
          refine Runs_p rfl (Valid.movek (A := Is _) rfl rfl) rfl rfl ?_ -- law.go:159 move
          refine Runs_p rfl (Valid.movek (A := Is _) rfl rfl) rfl rfl ?_ -- law.go:159 move
          refine Runs_p rfl (Valid.slen rfl Try.underlying9 rfl) rfl rfl ?_ -- law.go:159 call
          refine Runs_p rfl (Valid.mul rfl rfl rfl (room64 (by first | omega | (simp only [Int.toNat_natCast, toNat_add, toNat_add1, List.length_append, List.length_cons, List.length_nil, List.length_replicate]; omega)) (by first | omega | (simp only [Int.toNat_natCast, toNat_add, toNat_add1, List.length_append, List.length_cons, List.length_nil, List.length_replicate]; omega)))) rfl rfl ?_ -- law.go:159 binOp
          refine Runs_p rfl (Valid.call rfl (pick2_s _ _ (by omega) (by omega) (by omega) (by omega)) ⟨argle rfl, argle rfl, trivial⟩) rfl rfl ?_ -- law.go:159 call
          refine Runs_p rfl (Valid.assignk (A := Is _) rfl rfl) rfl rfl ?_ -- law.go:159 assign
          refine Runs_nil ?_
          refine thenQ_n ?_
          refine W_seq ?_
          refine W_regionE (c := 44) (c' := 47) (by kernel_rfl) rfl ?_
          refine Runs_p rfl (Valid.movek (A := Is _) rfl rfl) rfl rfl ?_ -- law.go:160 move
          refine Runs_w rfl (Valid.tobuf rfl Try.underlying45 Try.underlying5 Try.underlying9 rfl (by first | omega | (simp only [Int.toNat_natCast, toNat_add, toNat_add1, List.length_append, List.length_cons, List.length_nil, List.length_replicate]; omega))) rfl rfl ?_ -- law.go:160 convert
          refine Runs_p rfl (Valid.assignk (A := Buf 360 _) rfl rfl) rfl rfl ?_ -- law.go:160 assign
          refine Runs_nil ?_
          refine thenQ_n ?_
          refine W_seq ?_
          have hkr := pickV_range a0 (8 * (x.size : Int)) (by omega)
          generalize pickV a0 (8 * (x.size : Int)) = kk at *
          have hdl : x.data.toList.length = x.size := rfl
          have htz := turnS_size x kk
          obtain ⟨kn, rfl⟩ : ∃ kn : Nat, kk = kn := ⟨kk.toNat, by omega⟩
          have hmt := mat_turn (s := x) (k := kn) (by omega)
          refine W_drawE (c := 47) (c' := 61) (by kernel_rfl) rfl ?_
          refine Runs_p rfl (Valid.movek (A := Buf 360 _) rfl rfl) rfl rfl ?_ -- law.go:161 move
          refine Runs_p rfl (Valid.movek (A := Is _) rfl rfl) rfl rfl ?_ -- law.go:161 move
          refine Runs_p rfl (Valid.quo rfl rfl rfl (by first | omega | (simp only [Int.toNat_natCast, toNat_add, toNat_add1, List.length_append, List.length_cons, List.length_nil, List.length_replicate]; omega)) (by first | omega | (simp only [Int.toNat_natCast, toNat_add, toNat_add1, List.length_append, List.length_cons, List.length_nil, List.length_replicate]; omega)) (room64 (by first | omega | (simp only [Int.toNat_natCast, toNat_add, toNat_add1, List.length_append, List.length_cons, List.length_nil, List.length_replicate]; omega)) (by first | omega | (simp only [Int.toNat_natCast, toNat_add, toNat_add1, List.length_append, List.length_cons, List.length_nil, List.length_replicate]; omega)))) rfl rfl ?_ -- law.go:161 binOp
          refine Runs_p rfl (Valid.movek (A := Buf 360 _) rfl rfl) rfl rfl ?_ -- law.go:161 move
          refine Runs_p rfl (Valid.movek (A := Is _) rfl rfl) rfl rfl ?_ -- law.go:161 move
          refine Runs_p rfl (Valid.quo rfl rfl rfl (by first | omega | (simp only [Int.toNat_natCast, toNat_add, toNat_add1, List.length_append, List.length_cons, List.length_nil, List.length_replicate]; omega)) (by first | omega | (simp only [Int.toNat_natCast, toNat_add, toNat_add1, List.length_append, List.length_cons, List.length_nil, List.length_replicate]; omega)) (room64 (by first | omega | (simp only [Int.toNat_natCast, toNat_add, toNat_add1, List.length_append, List.length_cons, List.length_nil, List.length_replicate]; omega)) (by first | omega | (simp only [Int.toNat_natCast, toNat_add, toNat_add1, List.length_append, List.length_cons, List.length_nil, List.length_replicate]; omega)))) rfl rfl ?_ -- law.go:161 binOp
          refine Runs_p rfl (Valid.idxB rfl Try.underlying45 sz5 rfl rfl (by first | omega | (simp only [Int.toNat_natCast, toNat_add, toNat_add1, List.length_append, List.length_cons, List.length_nil, List.length_replicate]; omega))) rfl rfl ?_ -- law.go:161 indexAddr
          refine Runs_p rfl (Valid.loadB 0 rfl ag5 rfl rfl (by simp; omega)) rfl rfl ?_ -- law.go:161 load
          refine Runs_p rfl (Valid.movek (A := Is _) rfl rfl) rfl rfl ?_ -- law.go:161 move
          refine Runs_p rfl (Valid.rem rfl rfl rfl (by first | omega | (simp only [Int.toNat_natCast, toNat_add, toNat_add1, List.length_append, List.length_cons, List.length_nil, List.length_replicate]; omega)) (by first | omega | (simp only [Int.toNat_natCast, toNat_add, toNat_add1, List.length_append, List.length_cons, List.length_nil, List.length_replicate]; omega))) rfl rfl ?_ -- law.go:161 binOp
          refine Runs_p rfl (Valid.shrw rfl rfl rfl (by first | omega | (simp only [Int.toNat_natCast, toNat_add, toNat_add1, List.length_append, List.length_cons, List.length_nil, List.length_replicate]; omega))) rfl rfl ?_ -- law.go:161 binOp
          refine Runs_p rfl (Valid.bits rfl rfl rfl (fun w => xor_m _ _ (by omega) w)) rfl rfl ?_ -- law.go:161 binOp
          refine Runs_p rfl (Valid.idxB rfl Try.underlying45 sz5 rfl rfl (by first | omega | (simp only [Int.toNat_natCast, toNat_add, toNat_add1, List.length_append, List.length_cons, List.length_nil, List.length_replicate]; omega))) rfl rfl ?_ -- law.go:161 indexAddr
          refine Runs_op rfl (Valid.storeB _ rfl sz5 rfl rfl (by simp; omega) rfl (One.is rfl rfl rfl)) rfl ?_ -- law.go:161 store
          refine Runs_nil ?_
          refine ⟨_, _, rfl, rfl, by kernel_rfl, ?_⟩
          refine thenQ_n ?_
          refine W_seq ?_
          refine W_regionE (c := 61) (c' := 73) (by kernel_rfl) rfl ?_
          refine Runs_p rfl (Valid.movek (A := Is _) rfl rfl) rfl rfl ?_ -- law.go:162 move
          refine Runs_p rfl (Valid.movek (A := Is _) rfl rfl) rfl rfl ?_ -- law.go:162 move
          refine Runs_cnds (t := 15) rfl rfl (Grd.is rfl) [] (fun hg => trivial) (fun hg => Valid.movek (A := Buf 360 _) rfl rfl) (by simp [Op.operands]) rfl rfl ?_
          refine Runs_cnd rfl rfl (Grd.is rfl) [(120, _)] (fun hg => ⟨cnd_at rfl (by first | exact hg | exact hg.1 | exact hg.1.1 | exact hg.1.1.1), trivial⟩) (fun hg => Valid.stringB rfl Try.underlying45 Try.underlying5 Try.underlying9 rfl rfl) (by rfl) rfl ?_
          refine Runs_cnd rfl rfl (Grd.is rfl) [] (fun hg => trivial) (fun hg => Valid.movek (A := Is _) rfl rfl) (by rfl) rfl ?_
          refine Runs_cnd rfl rfl (Grd.is rfl) [(121, _), (122, _)] (fun hg => ⟨cnd_at rfl (by first | exact hg | exact hg.1 | exact hg.1.1 | exact hg.1.1.1), cnd_at rfl (by first | exact hg | exact hg.1 | exact hg.1.1 | exact hg.1.1.1), trivial⟩) (fun hg => Valid.call rfl (mat_s (turnS x (kn : Int)) _ _ (by (try simp only [] at hg); decide) _ (by (try simp only [] at hg); decide) (by (try simp only [] at hg); omega) (by (try simp only [] at hg); omega)) ⟨argle rfl, argle rfl, argle rfl, argle rfl, trivial⟩) (by rfl) rfl ?_
          refine Runs_cnd rfl rfl (Grd.is rfl) [] (fun hg => trivial) (fun hg => Valid.movek (A := Is _) rfl rfl) (by rfl) rfl ?_
          refine Runs_cnd rfl rfl (Grd.is rfl) [] (fun hg => trivial) (fun hg => Valid.movek (A := Is _) rfl rfl) (by rfl) rfl ?_
          refine Runs_cnd rfl rfl (Grd.is rfl) [(124, _), (125, _)] (fun hg => ⟨cnd_at rfl (by first | exact hg | exact hg.1 | exact hg.1.1 | exact hg.1.1.1), cnd_at rfl (by first | exact hg | exact hg.1 | exact hg.1.1 | exact hg.1.1.1), trivial⟩) (fun hg => Valid.call rfl (mat_s x _ _ (by (try simp only [] at hg); decide) _ (by (try simp only [] at hg); decide) (by (try simp only [] at hg); omega) (by (try simp only [] at hg); omega)) ⟨argle rfl, argle rfl, argle rfl, argle rfl, trivial⟩) (by rfl) rfl ?_
          refine Runs_cnd rfl rfl (Grd.is rfl) [(123, _), (126, _)] (fun hg => ⟨cnd_at rfl (by first | exact hg | exact hg.1 | exact hg.1.1 | exact hg.1.1.1), cnd_at rfl (by first | exact hg | exact hg.1 | exact hg.1.1 | exact hg.1.1.1), trivial⟩) (fun hg => Valid.bneq rfl rfl rfl Try.underlying4) (by rfl) rfl ?_
          refine Runs_p rfl (Valid.pickand rfl rfl rfl (fun h => by first | exact h | exact ⟨hg, h⟩) rfl) rfl rfl ?_ -- law.go:162 pick
          refine Runs_p rfl (Valid.assignk (A := Is _) rfl rfl) rfl rfl ?_ -- law.go:162 assign
          refine Runs_nil ?_
          refine thenQ_n ?_
          refine W_ret ?_
          refine finQ_r ?_
          refine ResOk.one rfl (RVal.is rfl rfl (by first | (rw [hmt]; simp; done) | (simp; done)))
          done)
      done)
end Mg
end Go.Proofs.Ytabhnnighhglfaa
