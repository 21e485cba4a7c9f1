/-
  WALKS of stage 1: which bits are right.
-/
import Derived.Test.YtnpmkbjellgecaaRows
import Derived.Test.YtnpmkbjellgecaaAbr
import Derived.Test.YtnpmkbjellgecaaBb
import Derived.Test.YtnpmkbjellgecaaBa
import Derived.Test.YtnpmkbjellgecaaCa
import Derived.Test.YtnpmkbjellgecaaCb
namespace Go.Proofs.Ytnpmkbjellgecaa
open Go.RowKit
namespace Cc
open Ab Bm Bt Bb Ca Cb
theorem ag26 (w : World) : (isAgg 26).run Try.prog w = .ok true w := by kernel_rfl
theorem ag3 (w : World) : (isAgg 3).run Try.prog w = .ok false w := by kernel_rfl
theorem ag5 (w : World) : (isAgg 5).run Try.prog w = .ok false w := by kernel_rfl
theorem ag9 (w : World) : (isAgg 9).run Try.prog w = .ok false w := by kernel_rfl
theorem sz26 (w : World) : (sizeOf 26).run Try.prog w = .ok 2 w := by kernel_rfl
theorem sz5 (w : World) : (sizeOf 5).run Try.prog w = .ok 1 w := by kernel_rfl
theorem tf26 : TwoF Try.prog 26 .i64 { name := "Data", type := 9, offset := 0, embedded := false, tag := "", pkgPath := "", byteOffset := 0 } { name := "N", type := 3, offset := 1, embedded := false, tag := "", pkgPath := "", byteOffset := 16 } where
  und := by kernel_rfl
  plain := by kernel_rfl
  guard := by kernel_rfl
  flds := by kernel_rfl
  nf := by decide
  ng := by decide
  sf := Try.underlying9
  sg := Try.underlying3
  pf := fun _ _ _ => by kernel_rfl
  pg := fun _ _ _ => by kernel_rfl
theorem zv26 (w : World) : (zeroValue 26).run Try.prog w = .ok (.agg #[(Value.string ⟨#[]⟩), (Value.int .i64 0)]) w := by kernel_rfl
/-- what Cat tells of bits alone -/
def catV (t : ByteArray) (m : Int) : (ByteArray × Int) × Int := if right t.data.toList m = true then ((t, m), 0) else ((⟨#[]⟩, 0), 1)
theorem cat1_f (t : ByteArray) (m : Int) (hs : t.size ≤ 1000000) (h1 : -9223372036854775808 ≤ m) (h2 : m ≤ 9223372036854775807) :
    FPure Try.prog 15 [Sl 2 1 (pcells [(t, m)])] (Tup [BV (catV t m).1.1 (catV t m).1.2, Is (.int .i64 (catV t m).2)]) := by
  unfold catV
  by_cases h : right t.data.toList m = true
  · rw [if_pos h]
    obtain ⟨b, rfl, rfl⟩ := pack_of_right t m h
    rw [pack_size] at hs
    have := cat_f [b] 1 (pcells [(pack b, (b.length : Int))]) rfl rfl (by simp; omega)
    simpa using this
  · rw [if_neg h]
    exact cat_n [] t m [] 1 _ rfl rfl (by simp) (by simpa using h) (by omega) h1 h2
theorem xor_u8 {P : Program} {t : TypeId} (x y : UInt8) (w : World) : (binOp .xor t (.int .u8 (x.toNat : Int)) (.int .u8 (y.toNat : Int))).run P w = .ok (.int .u8 ((x ^^^ y).toNat : Int)) w := by
  show (Op.intBits .xor .u8 (x.toNat : Int) (y.toNat : Int)).run P w = _
  have h1 : ∀ z : UInt8, BitVec.ofInt 8 (z.toNat : Int) = z.toBitVec := fun z => by
    rw [BitVec.ofInt_natCast]
    exact BitVec.ofNat_toNat _ _
  have h2 : IntKind.u8.wrap (((x.toBitVec ^^^ y.toBitVec).toNat : Nat) : Int) = ((x ^^^ y).toNat : Int) := by
    have : (x.toBitVec ^^^ y.toBitVec).toNat < 256 := (x.toBitVec ^^^ y.toBitVec).isLt
    rw [IntKind.wrap_u8]
    show _ = (((x.toBitVec ^^^ y.toBitVec).toNat : Nat) : Int)
    omega
  show (pure (Value.int .u8 (IntKind.u8.wrap (((BitVec.ofInt 8 (x.toNat : Int) ^^^ BitVec.ofInt 8 (y.toNat : Int)).toNat : Nat) : Int))) : Sem Value).run P w = _
  rw [h1, h1, h2]; rfl
/-- one bit of a byte, the highest one first -/
def mask (j : Nat) : UInt8 := UInt8.ofNat (2 ^ (7 - j))
theorem mask_at : ∀ j, j < 8 → Int.fdiv 128 (2 ^ min j 8) = ((mask j).toNat : Int) := by decide
theorem mask_of (k : Int) (_h : 0 ≤ k) : Int.fdiv 128 (2 ^ min (k % 8).toNat (IntKind.u8.bits)) = ((mask (k % 8).toNat).toNat : Int) := mask_at _ (by omega)
theorem xor_m {P : Program} {t : TypeId} (x : UInt8) (k : Int) (h : 0 ≤ k) (w : World) : (binOp .xor t (.int .u8 (x.toNat : Int)) (.int .u8 (Int.fdiv 128 (2 ^ min (k % 8).toNat (IntKind.u8.bits))))).run P w = .ok (.int .u8 ((x ^^^ mask (k % 8).toNat).toNat : Int)) w := by
  rw [mask_of k h]; exact xor_u8 _ _ w
theorem mask_bit (u : UInt8) : ∀ j, j < 8 → bitAt (u ^^^ mask j) j = !bitAt u j := fun j hj => by
  unfold bitAt
  rw [UInt8.toNat_xor, Nat.testBit_xor]
  have : (mask j).toNat.testBit (7 - j) = true := by
    have key : ∀ j, j < 8 → (mask j).toNat.testBit (7 - j) = true := by decide
    exact key j hj
  rw [this]; simp
/-- a text, one bit of which is turned -/
def turnS (s : ByteArray) (k : Int) : ByteArray := ⟨(s.data.toList.set (k / 8).toNat (s.data.toList.getD (k / 8).toNat 0 ^^^ mask (k % 8).toNat)).toArray⟩
theorem turnS_size (s : ByteArray) (k : Int) : (turnS s k).size = s.size := by
  show (s.data.toList.set _ _).length = s.size
  rw [List.length_set]; rfl
theorem turn_bit (s : ByteArray) (k : Nat) (h : k < 8 * s.size) : bit (turnS s (k : Int)).data.toList k = !bit s.data.toList k := by
  have hl : s.data.toList.length = s.size := rfl
  unfold bit
  show bitAt ((s.data.toList.set ((k : Int) / 8).toNat (s.data.toList.getD ((k : Int) / 8).toNat 0 ^^^ mask ((k : Int) % 8).toNat)).getD (k / 8) 0) (k % 8) = _
  rw [show ((k : Int) / 8).toNat = k / 8 by omega, show ((k : Int) % 8).toNat = k % 8 by omega]
  have : (s.data.toList.set (k / 8) (s.data.toList.getD (k / 8) 0 ^^^ mask (k % 8))).getD (k / 8) 0 = s.data.toList.getD (k / 8) 0 ^^^ mask (k % 8) := by
    rw [getD_lt _ _ _ (by rw [List.length_set]; omega), List.getElem_set_self]
  rw [this, mask_bit _ _ (by omega)]
/-- a bit behind the last one that is turned: no more right -/
theorem turn_no (b : List Bool) (k : Int) (h0 : (b.length : Int) ≤ k) (h1 : k < 8 * (pack b).size) : right (turnS (pack b) k).data.toList (b.length : Int) = false := by
  cases hr : right (turnS (pack b) k).data.toList (b.length : Int) with
  | false => rfl
  | true =>
    obtain ⟨c, hc, hn⟩ := pack_of_right _ _ hr
    obtain ⟨j, rfl⟩ : ∃ j : Nat, k = j := ⟨k.toNat, by omega⟩
    have h2 := turn_bit (pack b) j (by omega)
    rw [hc, pack_list, pack_list, enc_bit, enc_bit, List.getD_eq_getElem?_getD, List.getElem?_eq_none (by omega), List.getD_eq_getElem?_getD, List.getElem?_eq_none (by omega)] at h2
    simp at h2
theorem more_no (b : List Bool) : right (pack b ++ ⟨#[0]⟩).data.toList (b.length : Int) = false := by
  have hz : (pack b ++ (⟨#[0]⟩ : ByteArray)).data.toList.length = (b.length + 7) / 8 + 1 := by
    have h1 := pack_size b
    have : (pack b ++ (⟨#[0]⟩ : ByteArray)).data.toList.length = (pack b ++ (⟨#[0]⟩ : ByteArray)).size := rfl
    rw [this, ByteArray.size_append, h1]; rfl
  unfold right
  rw [hz, Int.toNat_natCast]
  simp
theorem cond_no (t : ByteArray) (m : Int) (h : ((right t.data.toList m == decide ((catV t m).2 = 0)) = false ∨ (catV t m).2 = 0 ∧ ¬ ((catV t m).1.1 = t ∧ (catV t m).1.2 = m)) ∨ ¬ (catV t m).2 = 0 ∧ ¬ ((catV t m).1.1 = ⟨#[]⟩ ∧ (catV t m).1.2 = 0)) : False := by
  unfold catV at h
  by_cases hr : right t.data.toList m = true
  · simp [hr] at h
  · simp [hr] at h
def twoP (p q : ByteArray × Int) : List (ByteArray × Int) := [p, q]
theorem twoP_bd (p q : ByteArray × Int) (hp : p.1.size ≤ 60) (hq : q.1.size ≤ 60) (hp2 : -9223372036854775808 ≤ p.2 ∧ p.2 ≤ 9223372036854775807) (hq2 : -9223372036854775808 ≤ q.2 ∧ q.2 ≤ 9223372036854775807) (k : Nat) (hk : k < 2) :
    ((twoP p q).getD k (ByteArray.empty, 0)).1.size ≤ 60 ∧ -9223372036854775808 ≤ ((twoP p q).getD k (ByteArray.empty, 0)).2 ∧ ((twoP p q).getD k (ByteArray.empty, 0)).2 ≤ 9223372036854775807 := by
  match k, hk with
  | 0, _ => exact ⟨hp, hp2⟩
  | 1, _ => exact ⟨hq, hq2⟩

set_option maxRecDepth 100000 in
set_option maxHeartbeats 1000000 in
theorem form_law (s : ByteArray) (hs : s.size ≤ 9223372036854775807) (n0 : Int) (wn : -9223372036854775808 ≤ n0 ∧ n0 ≤ 9223372036854775807) (raw : List Int) (hraw : In64 raw) (lraw : raw.length ≤ 9223372036854775807) (c0 : Int) (wc : -9223372036854775808 ≤ c0 ∧ c0 ≤ 9223372036854775807) :
    FPure Try.prog 7 [Agg [Is (.string s), Is (.int .i64 n0)], Sl 1 raw.length (raw.map (Value.int .i64)), Is (.int .i64 c0)] (Is (.bool true)) := by
  refine FPure.of Try.func7 Try.ntmps7 rfl (by kernel_rfl) rfl rfl rfl ?_
  refine W_seq ?_
  refine W_regionE (c := 1) (c' := 3) (by kernel_rfl) rfl ?_
  refine Runs_w rfl (Valid.boxagg rfl rfl) rfl rfl ?_ -- law.go:195 box
  refine Runs_p rfl (Valid.assignk (A := Is _) rfl rfl) rfl rfl ?_ -- law.go:195 assign
  refine Runs_nil ?_
  refine thenQ_n ?_
  refine W_seq ?_
  refine W_regionE (c := 3) (c' := 5) (by kernel_rfl) rfl ?_
  refine Runs_p rfl (Valid.call rfl (awake_f) trivial) rfl rfl ?_ -- law.go:196 call
  refine Runs_p rfl (Valid.assignk (A := Is _) rfl rfl) rfl rfl ?_ -- law.go:196 assign
  refine Runs_nil ?_
  refine thenQ_n ?_
  refine W_seq ?_
  refine W_drawE (c := 5) (c' := 17) (by kernel_rfl) rfl ?_
  refine Runs_p rfl (Valid.fieldaddr (off' := 0) rfl rfl (fun _ _ => by kernel_rfl)) rfl rfl ?_ -- law.go:197 fieldAddr
  refine Runs_p rfl (Valid.load _ rfl ag9 rfl rfl rfl) rfl rfl ?_ -- law.go:197 load
  refine Runs_p rfl (Valid.fieldaddr (off' := 0) rfl rfl (fun _ _ => by kernel_rfl)) rfl rfl ?_ -- law.go:197 fieldAddr
  refine Runs_p rfl (Valid.load _ rfl ag9 rfl rfl rfl) rfl rfl ?_ -- law.go:197 load
  refine Runs_p rfl (Valid.slen rfl Try.underlying9 rfl) rfl rfl ?_ -- law.go:197 call
  refine Runs_p rfl (Valid.min rfl rfl rfl) rfl rfl ?_ -- law.go:197 call
  refine Runs_p rfl (Valid.ssliceto rfl Try.underlying9 rfl rfl (by first | omega | (simp only [Int.toNat_natCast, toNat_add, toNat_add1, List.length_append, List.length_cons, List.length_nil, List.length_replicate]; omega))) rfl rfl ?_ -- law.go:197 slice
  refine Runs_p rfl (Valid.fieldaddr (off' := 1) rfl rfl (fun _ _ => by kernel_rfl)) rfl rfl ?_ -- law.go:197 fieldAddr
  refine Runs_p rfl (Valid.load _ rfl ag3 rfl rfl rfl) rfl rfl ?_ -- law.go:197 load
  refine Runs_p rfl (Valid.struct [_, _] rfl rfl (fun _ => by kernel_rfl)) rfl rfl ?_ -- law.go:197 build
  refine Runs_w rfl (Valid.alloc [(Value.string ⟨#[]⟩), (Value.int .i64 0)] rfl zv26 rfl) rfl rfl ?_ -- law.go:197 alloc
  refine Runs_op rfl (Valid.storeagg (l := [_, _]) rfl sz26 rfl rfl (Nat.le_of_ble_eq_true rfl) rfl ⟨(One.is rfl rfl rfl), (One.is rfl rfl rfl), trivial⟩) rfl ?_ -- law.go:197 store
  refine Runs_nil ?_
  refine ⟨_, _, rfl, rfl, by kernel_rfl, ?_⟩
  refine thenQ_n ?_
  refine W_seq ?_
  refine W_regionE (c := 17) (c' := 21) (by kernel_rfl) rfl ?_
  refine Runs_p rfl (Valid.movek (A := Sl 1 _ _) rfl rfl) rfl rfl ?_ -- law.go:198 move
  refine Runs_p rfl (Valid.call rfl (bits_s _ 100 hraw lraw (by decide)) ⟨argle_sl (Reads.sl rfl), argle rfl, trivial⟩) rfl rfl ?_ -- law.go:198 call
  refine Runs_w rfl (Valid.alloc [(Value.string ⟨#[]⟩), (Value.int .i64 0)] rfl zv26 rfl) rfl rfl ?_ -- law.go:198 alloc
  refine Runs_op rfl (Valid.storeagg (l := [_, _]) rfl sz26 rfl rfl (Nat.le_of_ble_eq_true rfl) rfl ⟨(One.is rfl rfl rfl), (One.is rfl rfl rfl), trivial⟩) rfl ?_ -- law.go:198 store
  refine Runs_nil ?_
  refine thenQ_n ?_
  refine W_seq ?_
  refine W_seq ?_
  have hyl : (bitsV raw 100).length ≤ 100 := by rw [bits_len]; omega
  generalize bitsV raw 100 = y at *
  have hxs : (s.extract 0 (min (s.size : Int) 60).toNat).size ≤ 60 := by rw [ByteArray.size_extract]; omega
  have hps := pack_size y
  have hbd := twoP_bd ((s.extract 0 (min (s.size : Int) 60).toNat), n0) (pack y, (y.length : Int)) hxs (by show (pack y).size ≤ 60; omega) wn ⟨by show _ ≤ ((y.length : Nat) : Int); omega, by show ((y.length : Nat) : Int) ≤ _; omega⟩
  refine W_regionE (c := 21) (c' := 26) (by kernel_rfl) rfl ?_
  refine Runs_p rfl (Valid.loadagg rfl ag26 sz26 rfl rfl (Nat.le_of_ble_eq_true rfl)) rfl rfl ?_ -- law.go:199 load
  refine Runs_p rfl (Valid.loadagg rfl ag26 sz26 rfl rfl (Nat.le_of_ble_eq_true rfl)) rfl rfl ?_ -- law.go:199 load
  refine Runs_p rfl (Valid.litP (el := 26) [(_, _), (_, _)] rfl rfl (fun _ => by kernel_rfl) rfl (by decide)) rfl rfl ?_ -- law.go:199 buildSlice
  refine Runs_p rfl (Valid.len rfl Try.underlying42 (Reads.sl rfl)) rfl rfl ?_ -- law.go:199 call
  refine Runs_p rfl (Valid.movek (A := Is _) rfl rfl) rfl rfl ?_ -- law.go:199 move
  refine Runs_nil ?_
  refine thenQ_n ?_
  refine W_block ?_
  refine W_loopx (G := Nat) (fun (k : Nat) => k ≤ 2) [(2, Is _), (7, Is _), (9, Ptr 152 0), (32, Sl 2 2 (pcells (twoP ((s.extract 0 (min (s.size : Int) 60).toNat), n0) (pack y, (y.length : Int))))), (33, Is _)] (fun (k : Nat) => [(34, Is (.int .i64 (k : Int)))]) [(152, .var 26 [Is _, Is _])] (fun (k : Nat) => []) 26 (fun (k : Nat) => 2 - k) (0) [] (by first | trivial | omega | (simp; omega)) ⟨⟨(leq_is rfl rfl (by first | rfl | (simp; done) | omega | (simp [toNat_add, toNat_add1, Nat.add_assoc]; done) | (simp [toNat_add, toNat_add1]; omega))), trivial⟩, ⟨(leq_is rfl rfl rfl), (leq_is rfl rfl rfl), (leq_ptr rfl rfl rfl), (leq_sl (Reads.sl rfl) rfl rfl rfl), (leq_is rfl rfl rfl), trivial⟩, trivial, ⟨hp_var rfl ⟨(leq_is rfl rfl rfl), (leq_is rfl rfl rfl), trivial⟩, trivial⟩, rfl, ⟨supg rfl, trivial⟩, ⟨supg rfl, supg rfl, supg rfl, supg rfl, supg rfl, trivial⟩, trivial, ⟨suph rfl rfl, trivial⟩, rfl, rfl⟩ ?_
  intro k hI1
  refine W_seq ?_
  refine W_regionE (c := 26) (c' := 27) (by kernel_rfl) rfl ?_
  refine Runs_p rfl (Valid.lss rfl rfl rfl) rfl rfl ?_ -- law.go:199 binOp
  refine Runs_nil ?_
  refine thenQ_n ?_
  refine W_seq ?_
  refine W_cond _ rfl (fun hb1 => ?_) (fun hb1 => ?_)
  · try simp only [decide_eq_true_eq] at hb1
    all_goals (
      refine W_skip ?_
      refine thenQ_n ?_
      refine W_seq ?_
      refine W_block ?_
      refine W_seq ?_
      refine W_regionE (c := 27) (c' := 31) (by kernel_rfl) rfl ?_
      refine Runs_p rfl (Valid.eltP rfl Try.underlying42 sz26 (Reads.sl rfl) rfl (by first | omega | (simp only [Int.toNat_natCast, toNat_add, toNat_add1, List.length_append, List.length_cons, List.length_nil, List.length_replicate]; omega)) (by first | rfl | simp)) rfl rfl ?_ -- law.go:199 indexAddr
      refine Runs_p rfl (Valid.loadeltagg (vs := [_, _]) rfl ag26 sz26 rfl) rfl rfl ?_ -- law.go:199 load
      refine Runs_w rfl (Valid.alloc [(Value.string ⟨#[]⟩), (Value.int .i64 0)] rfl zv26 rfl) rfl rfl ?_ -- law.go:199 alloc
      refine Runs_op rfl (Valid.storeagg (l := [_, _]) rfl sz26 rfl rfl (Nat.le_of_ble_eq_true rfl) rfl ⟨(One.is rfl rfl rfl), (One.is rfl rfl rfl), trivial⟩) rfl ?_ -- law.go:199 store
      refine Runs_nil ?_
      refine thenQ_n ?_
      refine W_seq ?_
      obtain ⟨hp1, hp2, hp3⟩ := hbd (k : Int).toNat (by omega)
      generalize (twoP ((s.extract 0 (min (s.size : Int) 60).toNat), n0) (pack y, (y.length : Int))).getD (k : Int).toNat (ByteArray.empty, 0) = p at *
      refine W_regionE (c := 31) (c' := 40) (by kernel_rfl) rfl ?_
      refine Runs_p rfl (Valid.loadagg rfl ag26 sz26 rfl rfl (Nat.le_of_ble_eq_true rfl)) rfl rfl ?_ -- law.go:200 load
      refine Runs_p rfl (Valid.litP (el := 26) [(_, _)] rfl rfl (fun _ => by kernel_rfl) rfl (by decide)) rfl rfl ?_ -- law.go:200 buildSlice
      refine Runs_p rfl (Valid.call rfl (cat1_f _ _ (by omega) (by omega) (by omega)) ⟨argle_sl (Reads.sl rfl), trivial⟩) rfl rfl ?_ -- law.go:200 call
      refine Runs_p rfl (Valid.movek (A := Tup [Agg [Is _, Is _], Is _]) rfl rfl) rfl rfl ?_ -- law.go:200 move
      refine Runs_p rfl (Valid.extract _ rfl rfl rfl) rfl rfl ?_ -- law.go:200 extract
      refine Runs_p rfl (Valid.extract _ rfl rfl rfl) rfl rfl ?_ -- law.go:200 extract
      refine Runs_w rfl (Valid.alloc [(Value.string ⟨#[]⟩), (Value.int .i64 0)] rfl zv26 rfl) rfl rfl ?_ -- law.go:200 alloc
      refine Runs_op rfl (Valid.storeagg (l := [_, _]) rfl sz26 rfl rfl (Nat.le_of_ble_eq_true rfl) rfl ⟨(One.is rfl rfl rfl), (One.is rfl rfl rfl), trivial⟩) rfl ?_ -- law.go:200 store
      refine Runs_p rfl (Valid.assignk (A := Is _) rfl rfl) rfl rfl ?_ -- law.go:200 assign
      refine Runs_nil ?_
      refine thenQ_n ?_
      refine W_seq ?_
      refine W_regionE (c := 40) (c' := 63) (by kernel_rfl) rfl ?_
      refine Runs_p rfl (Valid.loadagg rfl ag26 sz26 rfl rfl (Nat.le_of_ble_eq_true rfl)) rfl rfl ?_ -- law.go:201 load
      refine Runs_p rfl (Valid.call rfl (right_f _ _ (by omega) (by omega) (by omega)) ⟨argle rfl, trivial⟩) rfl rfl ?_ -- law.go:201 call
      refine Runs_p rfl (Valid.movek (A := Is _) rfl rfl) rfl rfl ?_ -- law.go:201 move
      refine Runs_p rfl (Valid.eql rfl rfl rfl) rfl rfl ?_ -- law.go:201 binOp
      refine Runs_p rfl (Valid.bneq rfl rfl rfl Try.underlying4) rfl rfl ?_ -- law.go:201 binOp
      refine Runs_p rfl (Valid.movek (A := Is _) rfl rfl) rfl rfl ?_ -- law.go:201 move
      refine Runs_cnd rfl rfl (Grd.is rfl) [] (fun hg => trivial) (fun hg => Valid.movek (A := Is _) rfl rfl) (by rfl) rfl ?_
      refine Runs_cnd rfl rfl (Grd.is rfl) [(50, _)] (fun hg => ⟨cnd_at rfl (by first | exact hg | exact hg.1 | exact hg.1.1 | exact hg.1.1.1), trivial⟩) (fun hg => Valid.eql rfl rfl rfl) (by rfl) rfl ?_
      refine Runs_cnd rfl rfl (Grd.is rfl) [(51, _)] (fun hg => ⟨cnd_at rfl (by first | exact hg | exact hg.1 | exact hg.1.1 | exact hg.1.1.1), trivial⟩) (fun hg => Valid.movek (A := Is _) rfl rfl) (by rfl) rfl ?_
      refine Runs_cnd rfl rfl (Grd.cnd rfl) [] (fun hg => trivial) (fun hg => Valid.loadagg rfl ag26 sz26 rfl rfl (Nat.le_of_ble_eq_true rfl)) (by rfl) rfl ?_
      refine Runs_cnd rfl rfl (Grd.cnd rfl) [] (fun hg => trivial) (fun hg => Valid.loadagg rfl ag26 sz26 rfl rfl (Nat.le_of_ble_eq_true rfl)) (by rfl) rfl ?_
      refine Runs_cnd rfl rfl (Grd.cnd rfl) [(53, _), (54, _)] (fun hg => ⟨cnd_at rfl (by first | exact hg | exact hg.1 | exact hg.1.1 | exact hg.1.1.1), cnd_at rfl (by first | exact hg | exact hg.1 | exact hg.1.1 | exact hg.1.1.1), trivial⟩) (fun hg => Valid.sneS tf26 rfl rfl rfl) (by rfl) rfl ?_
      refine Runs_cnd rfl rfl (Grd.is rfl) [(52, _)] (fun hg => ⟨cnd_at rfl (by first | exact hg | exact hg.1 | exact hg.1.1 | exact hg.1.1.1), trivial⟩) (fun hg => Valid.pickand rfl rfl rfl (fun h => by first | exact h | exact ⟨hg, h⟩) rfl) (by rfl) rfl ?_
      refine Runs_p rfl (Valid.pickor rfl rfl rfl rfl (fun h => by first | exact h | exact ⟨hg, h⟩)) rfl rfl ?_ -- law.go:201 pick
      refine Runs_p rfl (Valid.movek (A := Is _) rfl rfl) rfl rfl ?_ -- law.go:201 move
      refine Runs_cnd rfl rfl (Grd.is rfl) [] (fun hg => trivial) (fun hg => Valid.movek (A := Is _) rfl rfl) (by rfl) rfl ?_
      refine Runs_cnd rfl rfl (Grd.is rfl) [(59, _)] (fun hg => ⟨cnd_at rfl (by first | exact hg | exact hg.1 | exact hg.1.1 | exact hg.1.1.1), trivial⟩) (fun hg => Valid.neq rfl rfl rfl) (by rfl) rfl ?_
      refine Runs_cnd rfl rfl (Grd.is rfl) [(60, _)] (fun hg => ⟨cnd_at rfl (by first | exact hg | exact hg.1 | exact hg.1.1 | exact hg.1.1.1), trivial⟩) (fun hg => Valid.movek (A := Is _) rfl rfl) (by rfl) rfl ?_
      refine Runs_cnd rfl rfl (Grd.cnd rfl) [] (fun hg => trivial) (fun hg => Valid.loadagg rfl ag26 sz26 rfl rfl (Nat.le_of_ble_eq_true rfl)) (by rfl) rfl ?_
      refine Runs_cnd rfl rfl (Grd.cnd rfl) [] (fun hg => trivial) (fun hg => Valid.build [] [(Value.string ⟨#[]⟩), (Value.int .i64 0)] rfl rfl (fun _ => by kernel_rfl)) (by rfl) rfl ?_
      refine Runs_cnd rfl rfl (Grd.cnd rfl) [(62, _), (63, _)] (fun hg => ⟨cnd_at rfl (by first | exact hg | exact hg.1 | exact hg.1.1 | exact hg.1.1.1), cnd_at rfl (by first | exact hg | exact hg.1 | exact hg.1.1 | exact hg.1.1.1), trivial⟩) (fun hg => Valid.sneS tf26 rfl rfl rfl) (by rfl) rfl ?_
      refine Runs_cnd rfl rfl (Grd.is rfl) [(61, _)] (fun hg => ⟨cnd_at rfl (by first | exact hg | exact hg.1 | exact hg.1.1 | exact hg.1.1.1), trivial⟩) (fun hg => Valid.pickand rfl rfl rfl (fun h => by first | exact h | exact ⟨hg, h⟩) rfl) (by rfl) rfl ?_
      refine Runs_p rfl (Valid.pickor rfl rfl rfl rfl (fun h => by first | exact h | exact ⟨hg, h⟩)) rfl rfl ?_ -- law.go:201 pick
      refine Runs_nil ?_
      refine thenQ_n ?_
      refine W_cond _ rfl (fun hb2 => ?_) (fun hb2 => ?_)
      · try simp only [decide_eq_true_eq, decide_eq_false_iff_not, Bool.and_eq_true, Bool.or_eq_true, Bool.not_eq_true', ne_eq] at hb2
        all_goals (
          exfalso
          exact cond_no p.1 p.2 hb2
          
          done)
      · try simp only [decide_eq_true_eq, decide_eq_false_iff_not, Bool.and_eq_false_iff, Bool.or_eq_false_iff, Bool.not_eq_false', ne_eq] at hb2
        all_goals (
          refine W_skip ?_
          refine blockQ_n ?_
          refine thenQ_n ?_
          refine W_regionE (c := 63) (c' := 65) (by kernel_rfl) rfl ?_
          refine Runs_p rfl (Valid.add rfl rfl rfl (room64 (by first | omega | (simp only [Int.toNat_natCast, toNat_add, toNat_add1, List.length_append, List.length_cons, List.length_nil, List.length_replicate]; omega)) (by first | omega | (simp only [Int.toNat_natCast, toNat_add, toNat_add1, List.length_append, List.length_cons, List.length_nil, List.length_replicate]; omega)))) rfl rfl ?_ -- law.go:199 binOp
          refine Runs_p rfl (Valid.movek (A := Is _) rfl rfl) rfl rfl ?_ -- law.go:199 move
          refine Runs_nil ?_
          refine LoopQ.next (k + 1) [] (by omega) (by omega) ⟨⟨(leq_is rfl rfl (by first | rfl | (simp; done) | omega | (simp [toNat_add, toNat_add1, Nat.add_assoc]; done) | (simp [toNat_add, toNat_add1]; omega))), trivial⟩, ⟨(leq_is rfl rfl rfl), (leq_is rfl rfl rfl), (leq_ptr rfl rfl rfl), (leq_sl (Reads.sl rfl) rfl rfl rfl), (leq_is rfl rfl rfl), trivial⟩, trivial, ⟨hp_var rfl ⟨(leq_is rfl rfl rfl), (leq_is rfl rfl rfl), trivial⟩, trivial⟩, rfl, ⟨supg rfl, trivial⟩, ⟨supg rfl, supg rfl, supg rfl, supg rfl, supg rfl, trivial⟩, trivial, ⟨suph rfl rfl, trivial⟩, rfl, rfl⟩
          done)
      done)
  · try simp only [decide_eq_false_iff_not] at hb1
    all_goals (
      refine W_exit ?_
      refine thenQ_e ?_
      refine loopQ_e ?_
      refine blockQ_x ?_
      refine thenQ_n ?_
      refine W_seq ?_
      refine W_regionE (c := 27) (c' := 35) (by kernel_rfl) rfl ?_
      refine Runs_p rfl (Valid.fieldaddr (off' := 0) rfl rfl (fun _ _ => by kernel_rfl)) rfl rfl ?_ -- law.go:205 fieldAddr
      refine Runs_p rfl (Valid.load _ rfl ag9 rfl rfl rfl) rfl rfl ?_ -- law.go:205 load
      refine Runs_p rfl (Valid.slen rfl Try.underlying9 rfl) rfl rfl ?_ -- law.go:205 call
      refine Runs_p rfl (Valid.mul rfl rfl rfl (room64 (by first | omega | (simp only [Int.toNat_natCast, toNat_add, toNat_add1, List.length_append, List.length_cons, List.length_nil, List.length_replicate]; omega)) (by first | omega | (simp only [Int.toNat_natCast, toNat_add, toNat_add1, List.length_append, List.length_cons, List.length_nil, List.length_replicate]; omega)))) rfl rfl ?_ -- law.go:205 binOp
      refine Runs_p rfl (Valid.fieldaddr (off' := 1) rfl rfl (fun _ _ => by kernel_rfl)) rfl rfl ?_ -- law.go:205 fieldAddr
      refine Runs_p rfl (Valid.load _ rfl ag3 rfl rfl rfl) rfl rfl ?_ -- law.go:205 load
      refine Runs_p rfl (Valid.sub rfl rfl rfl (room64 (by first | omega | (simp only [Int.toNat_natCast, toNat_add, toNat_add1, List.length_append, List.length_cons, List.length_nil, List.length_replicate]; omega)) (by first | omega | (simp only [Int.toNat_natCast, toNat_add, toNat_add1, List.length_append, List.length_cons, List.length_nil, List.length_replicate]; omega)))) rfl rfl ?_ -- law.go:205 binOp
      refine Runs_p rfl (Valid.assignk (A := Is _) rfl rfl) rfl rfl ?_ -- law.go:205 assign
      refine Runs_nil ?_
      refine thenQ_n ?_
      refine W_seq ?_
      refine W_seq ?_
      refine W_regionE (c := 35) (c' := 37) (by kernel_rfl) rfl ?_
      refine Runs_p rfl (Valid.movek (A := Is _) rfl rfl) rfl rfl ?_ -- law.go:206 move
      refine Runs_p rfl (Valid.gtr rfl rfl rfl) rfl rfl ?_ -- law.go:206 binOp
      refine Runs_nil ?_
      refine thenQ_n ?_
      refine W_cond _ rfl (fun hb3 => ?_) (fun hb3 => ?_)
      · try simp only [decide_eq_true_eq] at hb3
        all_goals (
          refine W_seq ?_
          have hpk := pickV_range c0 (8 * ((pack y).size : Int) - (y.length : Int)) (by omega)
          refine W_drawE (c := 37) (c' := 44) (by kernel_rfl) rfl ?_
          refine Runs_p rfl (Valid.fieldaddr (off' := 1) rfl rfl (fun _ _ => by kernel_rfl)) rfl rfl ?_ -- law.go:207 fieldAddr
          refine Runs_p rfl (Valid.load _ rfl ag3 rfl rfl rfl) rfl rfl ?_ -- law.go:207 load
          refine Runs_p rfl (Valid.movek (A := Is _) rfl rfl) rfl rfl ?_ -- law.go:207 move
          refine Runs_p rfl (Valid.movek (A := Is _) rfl rfl) rfl rfl ?_ -- law.go:207 move
          refine Runs_p rfl (Valid.call rfl (pick1_s _ _ wc.1 wc.2 (by omega) (by omega)) ⟨argle rfl, argle rfl, trivial⟩) rfl rfl ?_ -- law.go:207 call
          refine Runs_p rfl (Valid.add rfl rfl rfl (room64 (by first | omega | (simp only [Int.toNat_natCast, toNat_add, toNat_add1, List.length_append, List.length_cons, List.length_nil, List.length_replicate]; omega)) (by first | omega | (simp only [Int.toNat_natCast, toNat_add, toNat_add1, List.length_append, List.length_cons, List.length_nil, List.length_replicate]; omega)))) rfl rfl ?_ -- law.go:207 binOp
          refine Runs_p rfl (Valid.assignk (A := Is _) rfl rfl) rfl rfl ?_ -- law.go:207 assign
          refine Runs_nil ?_
          refine ⟨_, _, rfl, rfl, by kernel_rfl, ?_⟩
          refine thenQ_n ?_
          refine W_seq ?_
          have hk0 : (y.length : Int) ≤ (y.length : Int) + pickV c0 (8 * ((pack y).size : Int) - (y.length : Int)) := by omega
          have hk1 : (y.length : Int) + pickV c0 (8 * ((pack y).size : Int) - (y.length : Int)) < 8 * (pack y).size := by omega
          generalize (y.length : Int) + pickV c0 (8 * ((pack y).size : Int) - (y.length : Int)) = kk at *
          have hpl : (pack y).data.toList.length = (pack y).size := rfl
          have htn := turn_no y kk hk0 hk1
          have htz := turnS_size (pack y) kk
          refine W_regionE (c := 44) (c' := 48) (by kernel_rfl) rfl ?_
          refine Runs_p rfl (Valid.fieldaddr (off' := 0) rfl rfl (fun _ _ => by kernel_rfl)) rfl rfl ?_ -- law.go:208 fieldAddr
          refine Runs_p rfl (Valid.load _ rfl ag9 rfl rfl rfl) rfl rfl ?_ -- law.go:208 load
          refine Runs_w rfl (Valid.tobuf rfl Try.underlying43 Try.underlying5 Try.underlying9 rfl (by first | omega | (simp only [Int.toNat_natCast, toNat_add, toNat_add1, List.length_append, List.length_cons, List.length_nil, List.length_replicate]; omega))) rfl rfl ?_ -- law.go:208 convert
          refine Runs_p rfl (Valid.assignk (A := Buf 368 _) rfl rfl) rfl rfl ?_ -- law.go:208 assign
          refine Runs_nil ?_
          refine thenQ_n ?_
          refine W_seq ?_
          refine W_drawE (c := 48) (c' := 62) (by kernel_rfl) rfl ?_
          refine Runs_p rfl (Valid.movek (A := Buf 368 _) rfl rfl) rfl rfl ?_ -- law.go:209 move
          refine Runs_p rfl (Valid.movek (A := Is _) rfl rfl) rfl rfl ?_ -- law.go:209 move
          refine Runs_p rfl (Valid.quo rfl rfl rfl (by first | omega | (simp only [Int.toNat_natCast, toNat_add, toNat_add1, List.length_append, List.length_cons, List.length_nil, List.length_replicate]; omega)) (by first | omega | (simp only [Int.toNat_natCast, toNat_add, toNat_add1, List.length_append, List.length_cons, List.length_nil, List.length_replicate]; omega)) (room64 (by first | omega | (simp only [Int.toNat_natCast, toNat_add, toNat_add1, List.length_append, List.length_cons, List.length_nil, List.length_replicate]; omega)) (by first | omega | (simp only [Int.toNat_natCast, toNat_add, toNat_add1, List.length_append, List.length_cons, List.length_nil, List.length_replicate]; omega)))) rfl rfl ?_ -- law.go:209 binOp
          refine Runs_p rfl (Valid.movek (A := Buf 368 _) rfl rfl) rfl rfl ?_ -- law.go:209 move
          refine Runs_p rfl (Valid.movek (A := Is _) rfl rfl) rfl rfl ?_ -- law.go:209 move
          refine Runs_p rfl (Valid.quo rfl rfl rfl (by first | omega | (simp only [Int.toNat_natCast, toNat_add, toNat_add1, List.length_append, List.length_cons, List.length_nil, List.length_replicate]; omega)) (by first | omega | (simp only [Int.toNat_natCast, toNat_add, toNat_add1, List.length_append, List.length_cons, List.length_nil, List.length_replicate]; omega)) (room64 (by first | omega | (simp only [Int.toNat_natCast, toNat_add, toNat_add1, List.length_append, List.length_cons, List.length_nil, List.length_replicate]; omega)) (by first | omega | (simp only [Int.toNat_natCast, toNat_add, toNat_add1, List.length_append, List.length_cons, List.length_nil, List.length_replicate]; omega)))) rfl rfl ?_ -- law.go:209 binOp
          refine Runs_p rfl (Valid.idxB rfl Try.underlying43 sz5 rfl rfl (by first | omega | (simp only [Int.toNat_natCast, toNat_add, toNat_add1, List.length_append, List.length_cons, List.length_nil, List.length_replicate]; omega))) rfl rfl ?_ -- law.go:209 indexAddr
          refine Runs_p rfl (Valid.loadB 0 rfl ag5 rfl rfl (by simp; omega)) rfl rfl ?_ -- law.go:209 load
          refine Runs_p rfl (Valid.movek (A := Is _) rfl rfl) rfl rfl ?_ -- law.go:209 move
          refine Runs_p rfl (Valid.rem rfl rfl rfl (by first | omega | (simp only [Int.toNat_natCast, toNat_add, toNat_add1, List.length_append, List.length_cons, List.length_nil, List.length_replicate]; omega)) (by first | omega | (simp only [Int.toNat_natCast, toNat_add, toNat_add1, List.length_append, List.length_cons, List.length_nil, List.length_replicate]; omega))) rfl rfl ?_ -- law.go:209 binOp
          refine Runs_p rfl (Valid.shrw rfl rfl rfl (by first | omega | (simp only [Int.toNat_natCast, toNat_add, toNat_add1, List.length_append, List.length_cons, List.length_nil, List.length_replicate]; omega))) rfl rfl ?_ -- law.go:209 binOp
          refine Runs_p rfl (Valid.bits rfl rfl rfl (fun w => xor_m _ kk (by omega) w)) rfl rfl ?_ -- law.go:209 binOp
          refine Runs_p rfl (Valid.idxB rfl Try.underlying43 sz5 rfl rfl (by first | omega | (simp only [Int.toNat_natCast, toNat_add, toNat_add1, List.length_append, List.length_cons, List.length_nil, List.length_replicate]; omega))) rfl rfl ?_ -- law.go:209 indexAddr
          refine Runs_op rfl (Valid.storeB _ rfl sz5 rfl rfl (by simp; omega) rfl (One.is rfl rfl rfl)) rfl ?_ -- law.go:209 store
          refine Runs_nil ?_
          refine ⟨_, _, rfl, rfl, by kernel_rfl, ?_⟩
          refine thenQ_n ?_
          refine W_seq ?_
          refine W_regionE (c := 62) (c' := 68) (by kernel_rfl) rfl ?_
          refine Runs_p rfl (Valid.movek (A := Buf 368 _) rfl rfl) rfl rfl ?_ -- law.go:210 move
          refine Runs_p rfl (Valid.stringB rfl Try.underlying43 Try.underlying5 Try.underlying9 rfl rfl) rfl rfl ?_ -- law.go:210 convert
          refine Runs_p rfl (Valid.fieldaddr (off' := 1) rfl rfl (fun _ _ => by kernel_rfl)) rfl rfl ?_ -- law.go:210 fieldAddr
          refine Runs_p rfl (Valid.load _ rfl ag3 rfl rfl rfl) rfl rfl ?_ -- law.go:210 load
          refine Runs_p rfl (Valid.struct [_, _] rfl rfl (fun _ => by kernel_rfl)) rfl rfl ?_ -- law.go:210 build
          refine Runs_p rfl (Valid.call rfl (right_f (turnS (pack y) kk) (y.length : Int) (by rw [htz]; omega) (by omega) (by omega)) ⟨argle rfl, trivial⟩) rfl rfl ?_ -- law.go:210 call
          refine Runs_nil ?_
          refine thenQ_n ?_
          refine W_cond _ rfl (fun hb4 => ?_) (fun hb4 => ?_)
          · try simp only [Int.toNat_natCast, toNat_add, toNat_add1, decide_eq_true_eq, decide_eq_false_iff_not, Bool.and_eq_true, Bool.or_eq_true, Bool.and_eq_false_iff, Bool.or_eq_false_iff, Bool.not_eq_true', Bool.not_eq_false', Bool.true_eq_false, Bool.false_eq_true, not_true_eq_false, not_false_eq_true, ne_eq] at hb4
            all_goals (
              exfalso
              rw [htn] at hb4
              cases hb4
              
              done)
          · try simp only [Int.toNat_natCast, toNat_add, toNat_add1, decide_eq_true_eq, decide_eq_false_iff_not, Bool.and_eq_true, Bool.or_eq_true, Bool.and_eq_false_iff, Bool.or_eq_false_iff, Bool.not_eq_true', Bool.not_eq_false', Bool.true_eq_false, Bool.false_eq_true, not_true_eq_false, not_false_eq_true, ne_eq] at hb4
            all_goals (
              refine W_skip ?_
              refine thenQ_n ?_
              refine W_seq ?_
              refine W_regionE (c := 68) (c' := 84) (by kernel_rfl) rfl ?_
              refine Runs_p rfl (Valid.movek (A := Is _) rfl rfl) rfl rfl ?_ -- law.go:214 move
              refine Runs_p rfl (Valid.movek (A := Is _) rfl rfl) rfl rfl ?_ -- law.go:214 move
              refine Runs_cnd rfl rfl (Grd.is rfl) [] (fun hg => trivial) (fun hg => Valid.loadagg rfl ag26 sz26 rfl rfl (Nat.le_of_ble_eq_true rfl)) (by rfl) rfl ?_
              refine Runs_cnd rfl rfl (Grd.is rfl) [(107, _)] (fun hg => ⟨cnd_at rfl (by first | exact hg | exact hg.1 | exact hg.1.1 | exact hg.1.1.1), trivial⟩) (fun hg => Valid.call rfl (right_f _ _ (by (try simp only [] at hg); omega) (by (try simp only [] at hg); omega) (by (try simp only [] at hg); omega)) ⟨argle rfl, trivial⟩) (by rfl) rfl ?_
              refine Runs_p rfl (Valid.pickand rfl rfl rfl (fun h => by first | exact h | exact ⟨hg, h⟩) rfl) rfl rfl ?_ -- law.go:214 pick
              refine Runs_p rfl (Valid.movek (A := Is _) rfl rfl) rfl rfl ?_ -- law.go:214 move
              refine Runs_cnds (t := 9) rfl rfl (Grd.is rfl) [] (fun hg => trivial) (fun hg => Valid.fieldaddr (off' := 0) rfl rfl (fun _ _ => by kernel_rfl)) (by simp [Op.operands]) rfl rfl ?_
              refine Runs_cnd rfl rfl (Grd.is rfl) [(111, _)] (fun hg => ⟨cnd_at rfl (by first | exact hg | exact hg.1 | exact hg.1.1 | exact hg.1.1.1), trivial⟩) (fun hg => Valid.load _ rfl ag9 rfl rfl rfl) (by rfl) rfl ?_
              refine Runs_cnd rfl rfl (Grd.is rfl) [(112, _)] (fun hg => ⟨cnd_at rfl (by first | exact hg | exact hg.1 | exact hg.1.1 | exact hg.1.1.1), trivial⟩) (fun hg => Valid.cat rfl rfl rfl (by (try simp only [Bool.and_eq_true] at hg); show (pack y).size + 1 ≤ _; first | omega | (simp only [maxLen]; omega))) (by rfl) rfl ?_
              refine Runs_cnds (t := 9) rfl rfl (Grd.is rfl) [] (fun hg => trivial) (fun hg => Valid.fieldaddr (off' := 1) rfl rfl (fun _ _ => by kernel_rfl)) (by simp [Op.operands]) rfl rfl ?_
              refine Runs_cnd rfl rfl (Grd.is rfl) [(114, _)] (fun hg => ⟨cnd_at rfl (by first | exact hg | exact hg.1 | exact hg.1.1 | exact hg.1.1.1), trivial⟩) (fun hg => Valid.load _ rfl ag3 rfl rfl rfl) (by rfl) rfl ?_
              refine Runs_cnd rfl rfl (Grd.is rfl) [(113, _), (115, _)] (fun hg => ⟨cnd_at rfl (by first | exact hg | exact hg.1 | exact hg.1.1 | exact hg.1.1.1), cnd_at rfl (by first | exact hg | exact hg.1 | exact hg.1.1 | exact hg.1.1.1), trivial⟩) (fun hg => Valid.struct [_, _] rfl rfl (fun _ => by kernel_rfl)) (by rfl) rfl ?_
              refine Runs_cnd rfl rfl (Grd.is rfl) [(116, _)] (fun hg => ⟨cnd_at rfl (by first | exact hg | exact hg.1 | exact hg.1.1 | exact hg.1.1.1), trivial⟩) (fun hg => Valid.call rfl (right_f _ _ (by (try simp only [Bool.and_eq_true] at hg); rw [ByteArray.size_append]; show ((pack y).size + 1) * 8 ≤ _; omega) (by (try simp only [Bool.and_eq_true] at hg); omega) (by (try simp only [Bool.and_eq_true] at hg); omega)) ⟨argle rfl, trivial⟩) (by rfl) rfl ?_
              refine Runs_cnd rfl rfl (Grd.is rfl) [(117, _)] (fun hg => ⟨cnd_at rfl (by first | exact hg | exact hg.1 | exact hg.1.1 | exact hg.1.1.1), trivial⟩) (fun hg => Valid.not rfl rfl) (by rfl) rfl ?_
              refine Runs_p rfl (Valid.pickand rfl rfl rfl (fun h => by first | exact h | exact ⟨hg, h⟩) rfl) rfl rfl ?_ -- law.go:214 pick
              refine Runs_p rfl (Valid.assignk (A := Is _) rfl rfl) rfl rfl ?_ -- law.go:214 assign
              refine Runs_nil ?_
              refine thenQ_n ?_
              refine W_ret ?_
              refine finQ_r ?_
              refine ResOk.one rfl (RVal.is rfl rfl (by rw [right_pack, more_no]; rfl))
              done)
          done)
      · try simp only [decide_eq_false_iff_not] at hb3
        all_goals (
          refine W_skip ?_
          refine thenQ_n ?_
          refine W_seq ?_
          refine W_regionE (c := 37) (c' := 53) (by kernel_rfl) rfl ?_
          refine Runs_p rfl (Valid.movek (A := Is _) rfl rfl) rfl rfl ?_ -- law.go:214 move
          refine Runs_p rfl (Valid.movek (A := Is _) rfl rfl) rfl rfl ?_ -- law.go:214 move
          refine Runs_cnd rfl rfl (Grd.is rfl) [] (fun hg => trivial) (fun hg => Valid.loadagg rfl ag26 sz26 rfl rfl (Nat.le_of_ble_eq_true rfl)) (by rfl) rfl ?_
          refine Runs_cnd rfl rfl (Grd.is rfl) [(107, _)] (fun hg => ⟨cnd_at rfl (by first | exact hg | exact hg.1 | exact hg.1.1 | exact hg.1.1.1), trivial⟩) (fun hg => Valid.call rfl (right_f _ _ (by (try simp only [] at hg); omega) (by (try simp only [] at hg); omega) (by (try simp only [] at hg); omega)) ⟨argle rfl, trivial⟩) (by rfl) rfl ?_
          refine Runs_p rfl (Valid.pickand rfl rfl rfl (fun h => by first | exact h | exact ⟨hg, h⟩) rfl) rfl rfl ?_ -- law.go:214 pick
          refine Runs_p rfl (Valid.movek (A := Is _) rfl rfl) rfl rfl ?_ -- law.go:214 move
          refine Runs_cnds (t := 9) rfl rfl (Grd.is rfl) [] (fun hg => trivial) (fun hg => Valid.fieldaddr (off' := 0) rfl rfl (fun _ _ => by kernel_rfl)) (by simp [Op.operands]) rfl rfl ?_
          refine Runs_cnd rfl rfl (Grd.is rfl) [(111, _)] (fun hg => ⟨cnd_at rfl (by first | exact hg | exact hg.1 | exact hg.1.1 | exact hg.1.1.1), trivial⟩) (fun hg => Valid.load _ rfl ag9 rfl rfl rfl) (by rfl) rfl ?_
          refine Runs_cnd rfl rfl (Grd.is rfl) [(112, _)] (fun hg => ⟨cnd_at rfl (by first | exact hg | exact hg.1 | exact hg.1.1 | exact hg.1.1.1), trivial⟩) (fun hg => Valid.cat rfl rfl rfl (by (try simp only [Bool.and_eq_true] at hg); show (pack y).size + 1 ≤ _; first | omega | (simp only [maxLen]; omega))) (by rfl) rfl ?_
          refine Runs_cnds (t := 9) rfl rfl (Grd.is rfl) [] (fun hg => trivial) (fun hg => Valid.fieldaddr (off' := 1) rfl rfl (fun _ _ => by kernel_rfl)) (by simp [Op.operands]) rfl rfl ?_
          refine Runs_cnd rfl rfl (Grd.is rfl) [(114, _)] (fun hg => ⟨cnd_at rfl (by first | exact hg | exact hg.1 | exact hg.1.1 | exact hg.1.1.1), trivial⟩) (fun hg => Valid.load _ rfl ag3 rfl rfl rfl) (by rfl) rfl ?_
          refine Runs_cnd rfl rfl (Grd.is rfl) [(113, _), (115, _)] (fun hg => ⟨cnd_at rfl (by first | exact hg | exact hg.1 | exact hg.1.1 | exact hg.1.1.1), cnd_at rfl (by first | exact hg | exact hg.1 | exact hg.1.1 | exact hg.1.1.1), trivial⟩) (fun hg => Valid.struct [_, _] rfl rfl (fun _ => by kernel_rfl)) (by rfl) rfl ?_
          refine Runs_cnd rfl rfl (Grd.is rfl) [(116, _)] (fun hg => ⟨cnd_at rfl (by first | exact hg | exact hg.1 | exact hg.1.1 | exact hg.1.1.1), trivial⟩) (fun hg => Valid.call rfl (right_f _ _ (by (try simp only [Bool.and_eq_true] at hg); rw [ByteArray.size_append]; show ((pack y).size + 1) * 8 ≤ _; omega) (by (try simp only [Bool.and_eq_true] at hg); omega) (by (try simp only [Bool.and_eq_true] at hg); omega)) ⟨argle rfl, trivial⟩) (by rfl) rfl ?_
          refine Runs_cnd rfl rfl (Grd.is rfl) [(117, _)] (fun hg => ⟨cnd_at rfl (by first | exact hg | exact hg.1 | exact hg.1.1 | exact hg.1.1.1), trivial⟩) (fun hg => Valid.not rfl rfl) (by rfl) rfl ?_
          refine Runs_p rfl (Valid.pickand rfl rfl rfl (fun h => by first | exact h | exact ⟨hg, h⟩) rfl) rfl rfl ?_ -- law.go:214 pick
          refine Runs_p rfl (Valid.assignk (A := Is _) rfl rfl) rfl rfl ?_ -- law.go:214 assign
          refine Runs_nil ?_
          refine thenQ_n ?_
          refine W_ret ?_
          refine finQ_r ?_
          refine ResOk.one rfl (RVal.is rfl rfl (by rw [right_pack, more_no]; rfl))
          done)
      done)
end Cc
end Go.Proofs.Ytnpmkbjellgecaa
