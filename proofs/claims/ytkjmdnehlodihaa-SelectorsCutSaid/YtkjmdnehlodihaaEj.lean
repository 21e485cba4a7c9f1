/-
  WALKS of stage 12: Take undoes Put; what is cut off.
-/
import Derived.Test.YtkjmdnehlodihaaRows
import Derived.Test.YtkjmdnehlodihaaAbs
import Derived.Test.YtkjmdnehlodihaaBb
import Derived.Test.YtkjmdnehlodihaaCm
import Derived.Test.YtkjmdnehlodihaaFz
import Derived.Test.YtkjmdnehlodihaaGm
import Derived.Test.YtkjmdnehlodihaaCa
import Derived.Test.YtkjmdnehlodihaaEa
import Derived.Test.YtkjmdnehlodihaaEb
import Derived.Test.YtkjmdnehlodihaaEc
import Derived.Test.YtkjmdnehlodihaaEd
import Derived.Test.YtkjmdnehlodihaaEe
import Derived.Test.YtkjmdnehlodihaaEg
import Derived.Test.YtkjmdnehlodihaaEh
import Derived.Test.YtkjmdnehlodihaaEi
namespace Go.Proofs.Ytkjmdnehlodihaa
open Go.RowKit
namespace Ej
open Ab Bm Bt Bb Cm Fz Gm Ca Ea Eb Ec Ed Ee Eg Eh Ei
theorem ag28 (w : World) : (isAgg 28).run Try.prog w = .ok true w := by kernel_rfl
theorem ag3 (w : World) : (isAgg 3).run Try.prog w = .ok false w := by kernel_rfl
theorem ag9 (w : World) : (isAgg 9).run Try.prog w = .ok false w := by kernel_rfl
theorem sz28 (w : World) : (sizeOf 28).run Try.prog w = .ok 2 w := by kernel_rfl
theorem sz3 (w : World) : (sizeOf 3).run Try.prog w = .ok 1 w := by kernel_rfl
theorem zv28 (w : World) : (zeroValue 28).run Try.prog w = .ok (.agg #[(Value.string ⟨#[]⟩), (Value.int .i64 0)]) w := by kernel_rfl
theorem bs_take (c : List Int) (t : Int) (m : Nat) : ∀ k, k ≤ m → stL (iniL t.toNat) (c.take m) k = stL (iniL t.toNat) c k ∧ bsF (c.take m) t k = bsF c t k
  | 0, _ => ⟨by rw [stL_0, stL_0], by rw [bsF_0, bsF_0]⟩
  | k + 1, h => by
    obtain ⟨e1, e2⟩ := bs_take c t m k (by omega)
    have e3 : (c.take m).getD k 0 = c.getD k 0 := by
      rw [List.getD_eq_getElem?_getD, List.getElem?_take, if_pos (by omega), ← List.getD_eq_getElem?_getD]
    rw [bsF_s, bsF_s, stL, stL, e1, e2, e3]
    exact ⟨rfl, rfl⟩
theorem ok_take {c : List Int} {t : Int} (h : okC c t) (m : Nat) : okC (c.take m) t := fun k hk => by
  rw [List.length_take] at hk
  rw [List.getD_eq_getElem?_getD, List.getElem?_take, if_pos (by omega), ← List.getD_eq_getElem?_getD]
  exact h k (by omega)
theorem put_few {c : List Int} {t : Int} (ht : 2 ≤ t ∧ t ≤ 6) (h : okC c t) (m : Nat) (hm : m ≤ c.length) : putV (c.take m) t = ((pack (bsF c t m), ((bsF c t m).length : Int)), 0) := by
  have e : putL (c.take m) t = bsF c t m := by
    have := (bs_take c t m m (Nat.le_refl _)).2
    have hl : (c.take m).length = m := by rw [List.length_take]; omega
    rw [putL, hl]
    exact this
  rw [put_0 ht (ok_take h m), e]
theorem take_few {c : List Int} {t : Int} (ht : 2 ≤ t ∧ t ≤ 6) (h : okC c t) (hc : c.length ≤ 1000) (x y : List Bool) (m : Nat) (hm : m ≤ c.length) : takeV (pack (x ++ putL c t ++ y)) (x.length : Int) (m : Int) t = (c.take m, ((x.length + (bsF c t m).length : Nat) : Int), 0) := by
  have h1 : hasAt (pack (x ++ putL c t ++ y)) x.length (bsF c t c.length) := has_pack x (putL c t) y
  obtain ⟨r, hr⟩ := bs_pre c t m (c.length - m)
  rw [show m + (c.length - m) = c.length by omega] at hr
  rw [hr] at h1
  exact take_put ht h m hm hc (has_app.1 h1).1
theorem cat3 (x b y : List Bool) (h : x.length + b.length + y.length ≤ 10000000) : FPure Try.prog 17 [Sl 2 3 (pcells [(pack x, (x.length : Int)), (pack b, (b.length : Int)), (pack y, (y.length : Int))])] (Tup [BV (pack (x ++ b ++ y)) ((x ++ b ++ y).length : Int), Is (.int .i64 0)]) := by
  have e : [x, b, y].flatten = x ++ b ++ y := by simp
  have h1 := cat_f [x, b, y] 3 (pcells [(pack x, (x.length : Int)), (pack b, (b.length : Int)), (pack y, (y.length : Int))]) rfl rfl (by rw [e]; simp only [List.length_append]; omega)
  rw [e] at h1
  exact h1
theorem pl_le {c : List Int} {t : Int} (ht : 2 ≤ t ∧ t ≤ 6) (h : okC c t) (hc : c.length ≤ 60) : (putL c t).length ≤ 360 := by
  have : (bsF c t c.length).length ≤ 6 * c.length := bsF_le ht h c.length (Nat.le_refl _)
  have e : (putL c t).length = (bsF c t c.length).length := rfl
  omega

set_option maxRecDepth 100000 in
set_option maxHeartbeats 1000000 in
theorem back_law (tables : Int) (wtables : -9223372036854775808 ≤ tables ∧ tables ≤ 9223372036854775807) (raw : List Int) (hraw : In64 raw) (lraw : raw.length ≤ 9223372036854775807) (one : List Int) (hone : In64 one) (lone : one.length ≤ 9223372036854775807) (two : List Int) (htwo : In64 two) (ltwo : two.length ≤ 9223372036854775807) (few : Int) (wfew : -9223372036854775808 ≤ few ∧ few ≤ 9223372036854775807) :
    FPure Try.prog 4 [Is (.int .i64 tables), Sl 1 raw.length (raw.map (Value.int .i64)), Sl 1 one.length (one.map (Value.int .i64)), Sl 1 two.length (two.map (Value.int .i64)), Is (.int .i64 few)] (Is (.bool true)) := by
  refine FPure.of Try.func4 Try.ntmps4 rfl (by kernel_rfl) rfl rfl rfl ?_
  refine W_seq ?_
  refine W_regionE (c := 1) (c' := 2) (by kernel_rfl) rfl ?_
  refine Runs_p rfl (Valid.assignk (A := Is _) rfl rfl) rfl rfl ?_ -- law.go:69 assign
  refine Runs_nil ?_
  refine thenQ_n ?_
  refine W_seq ?_
  refine W_regionE (c := 2) (c' := 4) (by kernel_rfl) rfl ?_
  refine Runs_p rfl (Valid.call rfl (awake12_s) trivial) rfl rfl ?_ -- law.go:70 call
  refine Runs_p rfl (Valid.assignk (A := Is _) rfl rfl) rfl rfl ?_ -- law.go:70 assign
  refine Runs_nil ?_
  refine thenQ_n ?_
  refine W_seq ?_
  refine W_regionE (c := 4) (c' := 8) (by kernel_rfl) rfl ?_
  refine Runs_p rfl (Valid.movek (A := Is _) rfl rfl) rfl rfl ?_ -- law.go:71 move
  refine Runs_p rfl (Valid.call rfl (pick12_s _ _ wtables.1 wtables.2 (by decide) (by decide)) ⟨argle rfl, argle rfl, trivial⟩) rfl rfl ?_ -- law.go:71 call
  refine Runs_p rfl (Valid.add rfl rfl rfl (room64 (by have := pickV_range tables 5 (by decide); omega) (by have := pickV_range tables 5 (by decide); omega))) rfl rfl ?_ -- law.go:71 binOp
  refine Runs_p rfl (Valid.assignk (A := Is _) rfl rfl) rfl rfl ?_ -- law.go:71 assign
  refine Runs_nil ?_
  refine thenQ_n ?_
  refine W_seq ?_
  have htr := pickV_range tables 5 (by decide)
  have ht : 2 ≤ (2 + pickV tables 5) ∧ (2 + pickV tables 5) ≤ 6 := by omega
  generalize (2 + pickV tables 5) = t at *
  refine W_regionE (c := 8) (c' := 12) (by kernel_rfl) rfl ?_
  refine Runs_p rfl (Valid.movek (A := Sl 1 _ _) rfl rfl) rfl rfl ?_ -- law.go:72 move
  refine Runs_p rfl (Valid.movek (A := Is _) rfl rfl) rfl rfl ?_ -- law.go:72 move
  refine Runs_p rfl (Valid.call rfl (sym_s _ _ 60 hraw lraw (by omega) (by omega) (by decide)) ⟨argle_sl (Reads.sl rfl), argle rfl, argle rfl, trivial⟩) rfl rfl ?_ -- law.go:72 call
  refine Runs_p rfl (Valid.assignk (A := Sl 1 _ _) rfl rfl) rfl rfl ?_ -- law.go:72 assign
  refine Runs_nil ?_
  refine thenQ_n ?_
  refine W_seq ?_
  have hok := sym_ok raw t 60 (by omega)
  have hll : (symV raw t 60).length ≤ 60 := by rw [sym_len]; omega
  generalize symV raw t 60 = l at *
  have hpl := pl_le ht hok hll
  refine W_regionE (c := 12) (c' := 21) (by kernel_rfl) rfl ?_
  refine Runs_p rfl (Valid.movek (A := Sl 1 _ _) rfl rfl) rfl rfl ?_ -- law.go:73 move
  refine Runs_p rfl (Valid.movek (A := Is _) rfl rfl) rfl rfl ?_ -- law.go:73 move
  refine Runs_p rfl (Valid.call rfl (put_t (put_0 ht hok) rfl rfl (by omega)) ⟨argle_sl (Reads.sl rfl), argle rfl, trivial⟩) rfl rfl ?_ -- law.go:73 call
  refine Runs_p rfl (Valid.movek (A := Tup [Agg [Is _, Is _], Is _]) rfl rfl) rfl rfl ?_ -- law.go:73 move
  refine Runs_p rfl (Valid.extract _ rfl rfl rfl) rfl rfl ?_ -- law.go:73 extract
  refine Runs_p rfl (Valid.extract _ rfl rfl rfl) rfl rfl ?_ -- law.go:73 extract
  refine Runs_w rfl (Valid.alloc [(Value.string ⟨#[]⟩), (Value.int .i64 0)] rfl zv28 rfl) rfl rfl ?_ -- law.go:73 alloc
  refine Runs_op rfl (Valid.storeagg (l := [_, _]) rfl sz28 rfl rfl (Nat.le_of_ble_eq_true rfl) rfl ⟨(One.is rfl rfl rfl), (One.is rfl rfl rfl), trivial⟩) rfl ?_ -- law.go:73 store
  refine Runs_p rfl (Valid.assignk (A := Is _) rfl rfl) rfl rfl ?_ -- law.go:73 assign
  refine Runs_nil ?_
  refine thenQ_n ?_
  refine W_seq ?_
  refine W_regionE (c := 21) (c' := 25) (by kernel_rfl) rfl ?_
  refine Runs_p rfl (Valid.movek (A := Sl 1 _ _) rfl rfl) rfl rfl ?_ -- law.go:74 move
  refine Runs_p rfl (Valid.call rfl (bits_s _ 30 hone lone (by decide)) ⟨argle_sl (Reads.sl rfl), argle rfl, trivial⟩) rfl rfl ?_ -- law.go:74 call
  refine Runs_w rfl (Valid.alloc [(Value.string ⟨#[]⟩), (Value.int .i64 0)] rfl zv28 rfl) rfl rfl ?_ -- law.go:74 alloc
  refine Runs_op rfl (Valid.storeagg (l := [_, _]) rfl sz28 rfl rfl (Nat.le_of_ble_eq_true rfl) rfl ⟨(One.is rfl rfl rfl), (One.is rfl rfl rfl), trivial⟩) rfl ?_ -- law.go:74 store
  refine Runs_nil ?_
  refine thenQ_n ?_
  refine W_seq ?_
  have hx : (bitsV one 30).length ≤ 30 := by rw [bits_len]; omega
  generalize bitsV one 30 = x at *
  refine W_drawE (c := 25) (c' := 37) (by kernel_rfl) rfl ?_
  refine Runs_p rfl (Valid.loadagg rfl ag28 sz28 rfl rfl (Nat.le_of_ble_eq_true rfl)) rfl rfl ?_ -- law.go:75 load
  refine Runs_p rfl (Valid.loadagg rfl ag28 sz28 rfl rfl (Nat.le_of_ble_eq_true rfl)) rfl rfl ?_ -- law.go:75 load
  refine Runs_p rfl (Valid.movek (A := Sl 1 _ _) rfl rfl) rfl rfl ?_ -- law.go:75 move
  refine Runs_p rfl (Valid.call rfl (bits_s _ 30 htwo ltwo (by decide)) ⟨argle_sl (Reads.sl rfl), argle rfl, trivial⟩) rfl rfl ?_ -- law.go:75 call
  refine Runs_p rfl (Valid.litP (el := 28) [(_, _), (_, _), (_, _)] rfl rfl (fun _ => by kernel_rfl) rfl (by decide)) rfl rfl ?_ -- law.go:75 buildSlice
  refine Runs_p rfl (Valid.call rfl (cat3 _ _ _ (by rw [bits_len]; omega)) ⟨argle_sl (Reads.sl rfl), trivial⟩) rfl rfl ?_ -- law.go:75 call
  refine Runs_p rfl (Valid.movek (A := Tup [Agg [Is _, Is _], Is _]) rfl rfl) rfl rfl ?_ -- law.go:75 move
  refine Runs_p rfl (Valid.extract _ rfl rfl rfl) rfl rfl ?_ -- law.go:75 extract
  refine Runs_p rfl (Valid.extract _ rfl rfl rfl) rfl rfl ?_ -- law.go:75 extract
  refine Runs_w rfl (Valid.alloc [(Value.string ⟨#[]⟩), (Value.int .i64 0)] rfl zv28 rfl) rfl rfl ?_ -- law.go:75 alloc
  refine Runs_op rfl (Valid.storeagg (l := [_, _]) rfl sz28 rfl rfl (Nat.le_of_ble_eq_true rfl) rfl ⟨(One.is rfl rfl rfl), (One.is rfl rfl rfl), trivial⟩) rfl ?_ -- law.go:75 store
  refine Runs_p rfl (Valid.assignk (A := Is _) rfl rfl) rfl rfl ?_ -- law.go:75 assign
  refine Runs_nil ?_
  refine ⟨_, _, rfl, rfl, by kernel_rfl, ?_⟩
  refine thenQ_n ?_
  refine W_seq ?_
  have hy : (bitsV two 30).length ≤ 30 := by rw [bits_len]; omega
  generalize bitsV two 30 = y at *
  have hps : (pack (x ++ putL l t ++ y)).size ≤ 1000 := by rw [pack_size]; simp only [List.length_append]; omega
  have hT1 := take_few ht hok (by omega) x y l.length (Nat.le_refl _)
  rw [List.take_length] at hT1
  refine W_regionE (c := 37) (c' := 52) (by kernel_rfl) rfl ?_
  refine Runs_p rfl (Valid.fieldaddr (off' := 0) rfl rfl (fun _ _ => by kernel_rfl)) rfl rfl ?_ -- law.go:76 fieldAddr
  refine Runs_p rfl (Valid.load _ rfl ag9 rfl rfl rfl) rfl rfl ?_ -- law.go:76 load
  refine Runs_p rfl (Valid.fieldaddr (off' := 1) rfl rfl (fun _ _ => by kernel_rfl)) rfl rfl ?_ -- law.go:76 fieldAddr
  refine Runs_p rfl (Valid.load _ rfl ag3 rfl rfl rfl) rfl rfl ?_ -- law.go:76 load
  refine Runs_p rfl (Valid.movek (A := Sl 1 _ _) rfl rfl) rfl rfl ?_ -- law.go:76 move
  refine Runs_p rfl (Valid.len rfl Try.underlying22 (Reads.sl rfl)) rfl rfl ?_ -- law.go:76 call
  refine Runs_p rfl (Valid.movek (A := Is _) rfl rfl) rfl rfl ?_ -- law.go:76 move
  refine Runs_p rfl (Valid.call rfl (take_t hT1 rfl (by omega) (by omega)) ⟨argle rfl, argle rfl, argle rfl, argle rfl, trivial⟩) rfl rfl ?_ -- law.go:76 call
  refine Runs_p rfl (Valid.movek (A := Tup [Sl 1 _ _, Is _, Is _]) rfl rfl) rfl rfl ?_ -- law.go:76 move
  refine Runs_p rfl (Valid.extract _ rfl rfl rfl) rfl rfl ?_ -- law.go:76 extract
  refine Runs_p rfl (Valid.extract _ rfl rfl rfl) rfl rfl ?_ -- law.go:76 extract
  refine Runs_p rfl (Valid.extract _ rfl rfl rfl) rfl rfl ?_ -- law.go:76 extract
  refine Runs_p rfl (Valid.assignk (A := Sl 1 _ _) rfl rfl) rfl rfl ?_ -- law.go:76 assign
  refine Runs_p rfl (Valid.assignk (A := Is _) rfl rfl) rfl rfl ?_ -- law.go:76 assign
  refine Runs_p rfl (Valid.assignk (A := Is _) rfl rfl) rfl rfl ?_ -- law.go:76 assign
  refine Runs_nil ?_
  refine thenQ_n ?_
  refine W_seq ?_
  refine W_regionE (c := 52) (c' := 58) (by kernel_rfl) rfl ?_
  refine Runs_p rfl (Valid.movek (A := Is _) rfl rfl) rfl rfl ?_ -- law.go:77 move
  refine Runs_p rfl (Valid.movek (A := Sl 1 _ _) rfl rfl) rfl rfl ?_ -- law.go:77 move
  refine Runs_p rfl (Valid.len rfl Try.underlying22 (Reads.sl rfl)) rfl rfl ?_ -- law.go:77 call
  refine Runs_p rfl (Valid.add rfl rfl rfl (room64 (by first | omega | (simp only [Int.toNat_natCast, toNat_add, toNat_add1, List.length_append, List.length_cons, List.length_nil, List.length_replicate]; omega)) (by first | omega | (simp only [Int.toNat_natCast, toNat_add, toNat_add1, List.length_append, List.length_cons, List.length_nil, List.length_replicate]; omega)))) rfl rfl ?_ -- law.go:77 binOp
  refine Runs_p rfl (Valid.call rfl (pick12_s _ _ wfew.1 wfew.2 (by omega) (by omega)) ⟨argle rfl, argle rfl, trivial⟩) rfl rfl ?_ -- law.go:77 call
  refine Runs_p rfl (Valid.assignk (A := Is _) rfl rfl) rfl rfl ?_ -- law.go:77 assign
  refine Runs_nil ?_
  refine thenQ_n ?_
  refine W_seq ?_
  have hkr := pickV_range few ((l.length : Int) + 1) (by omega)
  generalize pickV few ((l.length : Int) + 1) = kk at *
  have hkl : (l.take kk.toNat).length = kk.toNat := by rw [List.length_take]; omega
  have hT2 := take_few ht hok (by omega) x y kk.toNat (by omega)
  rw [Int.toNat_of_nonneg hkr.1] at hT2
  have hP2 := put_few ht hok kk.toNat (by omega)
  have hfl := bsF_le ht hok kk.toNat (by omega)
  have hbe : bsF l t l.length = putL l t := rfl
  refine W_regionE (c := 58) (c' := 72) (by kernel_rfl) rfl ?_
  refine Runs_p rfl (Valid.fieldaddr (off' := 0) rfl rfl (fun _ _ => by kernel_rfl)) rfl rfl ?_ -- law.go:78 fieldAddr
  refine Runs_p rfl (Valid.load _ rfl ag9 rfl rfl rfl) rfl rfl ?_ -- law.go:78 load
  refine Runs_p rfl (Valid.fieldaddr (off' := 1) rfl rfl (fun _ _ => by kernel_rfl)) rfl rfl ?_ -- law.go:78 fieldAddr
  refine Runs_p rfl (Valid.load _ rfl ag3 rfl rfl rfl) rfl rfl ?_ -- law.go:78 load
  refine Runs_p rfl (Valid.movek (A := Is _) rfl rfl) rfl rfl ?_ -- law.go:78 move
  refine Runs_p rfl (Valid.movek (A := Is _) rfl rfl) rfl rfl ?_ -- law.go:78 move
  refine Runs_p rfl (Valid.call rfl (take_t hT2 (m := kk.toNat) hkl.symm (by omega) (by omega)) ⟨argle rfl, argle rfl, argle rfl, argle rfl, trivial⟩) rfl rfl ?_ -- law.go:78 call
  refine Runs_p rfl (Valid.movek (A := Tup [Sl 1 _ _, Is _, Is _]) rfl rfl) rfl rfl ?_ -- law.go:78 move
  refine Runs_p rfl (Valid.extract _ rfl rfl rfl) rfl rfl ?_ -- law.go:78 extract
  refine Runs_p rfl (Valid.extract _ rfl rfl rfl) rfl rfl ?_ -- law.go:78 extract
  refine Runs_p rfl (Valid.extract _ rfl rfl rfl) rfl rfl ?_ -- law.go:78 extract
  refine Runs_p rfl (Valid.assignk (A := Sl 1 _ _) rfl rfl) rfl rfl ?_ -- law.go:78 assign
  refine Runs_p rfl (Valid.assignk (A := Is _) rfl rfl) rfl rfl ?_ -- law.go:78 assign
  refine Runs_p rfl (Valid.assignk (A := Is _) rfl rfl) rfl rfl ?_ -- law.go:78 assign
  refine Runs_nil ?_
  refine thenQ_n ?_
  refine W_seq ?_
  refine W_regionE (c := 72) (c' := 83) (by kernel_rfl) rfl ?_
  refine Runs_p rfl (Valid.movek (A := Sl 1 _ _) rfl rfl) rfl rfl ?_ -- law.go:79 move
  refine Runs_p rfl (Valid.movek (A := Is _) rfl rfl) rfl rfl ?_ -- law.go:79 move
  refine Runs_p rfl (Valid.sliceto1 rfl Try.underlying22 sz3 (Reads.sl rfl) rfl (by first | omega | (simp only [Int.toNat_natCast, toNat_add, toNat_add1, List.length_append, List.length_cons, List.length_nil, List.length_replicate]; omega))) rfl rfl ?_ -- law.go:79 slice
  refine Runs_p rfl (Valid.movek (A := Is _) rfl rfl) rfl rfl ?_ -- law.go:79 move
  refine Runs_p rfl (Valid.call rfl (put_t (l := l.take kk.toNat) hP2 (by omega) (by rw [List.map_take]) (by omega)) ⟨argle_sl (Reads.sl rfl), argle rfl, trivial⟩) rfl rfl ?_ -- law.go:79 call
  refine Runs_p rfl (Valid.movek (A := Tup [Agg [Is _, Is _], Is _]) rfl rfl) rfl rfl ?_ -- law.go:79 move
  refine Runs_p rfl (Valid.extract _ rfl rfl rfl) rfl rfl ?_ -- law.go:79 extract
  refine Runs_p rfl (Valid.extract _ rfl rfl rfl) rfl rfl ?_ -- law.go:79 extract
  refine Runs_w rfl (Valid.alloc [(Value.string ⟨#[]⟩), (Value.int .i64 0)] rfl zv28 rfl) rfl rfl ?_ -- law.go:79 alloc
  refine Runs_op rfl (Valid.storeagg (l := [_, _]) rfl sz28 rfl rfl (Nat.le_of_ble_eq_true rfl) rfl ⟨(One.is rfl rfl rfl), (One.is rfl rfl rfl), trivial⟩) rfl ?_ -- law.go:79 store
  refine Runs_p rfl (Valid.assignk (A := Is _) rfl rfl) rfl rfl ?_ -- law.go:79 assign
  refine Runs_nil ?_
  refine thenQ_n ?_
  refine W_seq ?_
  refine W_regionE (c := 83) (c' := 135) (by kernel_rfl) rfl ?_
  refine Runs_p rfl (Valid.movek (A := Is _) rfl rfl) rfl rfl ?_ -- law.go:80 move
  refine Runs_p rfl (Valid.movek (A := Is _) rfl rfl) rfl rfl ?_ -- law.go:80 move
  refine Runs_cnd rfl rfl (Grd.is rfl) [] (fun hg => trivial) (fun hg => Valid.movek (A := Is _) rfl rfl) (by rfl) rfl ?_
  refine Runs_cnd rfl rfl (Grd.is rfl) [(90, _)] (fun hg => ⟨cnd_at rfl (by first | exact hg | exact hg.1 | exact hg.1.1 | exact hg.1.1.1), trivial⟩) (fun hg => Valid.eql rfl rfl rfl) (by rfl) rfl ?_
  refine Runs_p rfl (Valid.pickand rfl rfl rfl (fun h => by first | exact h | exact ⟨hg, h⟩) rfl) rfl rfl ?_ -- law.go:80 pick
  refine Runs_p rfl (Valid.movek (A := Is _) rfl rfl) rfl rfl ?_ -- law.go:80 move
  refine Runs_cnd rfl rfl (Grd.is rfl) [] (fun hg => trivial) (fun hg => Valid.movek (A := Is _) rfl rfl) (by rfl) rfl ?_
  refine Runs_cnd rfl rfl (Grd.is rfl) [(94, _)] (fun hg => ⟨cnd_at rfl (by first | exact hg | exact hg.1 | exact hg.1.1 | exact hg.1.1.1), trivial⟩) (fun hg => Valid.eql rfl rfl rfl) (by rfl) rfl ?_
  refine Runs_p rfl (Valid.pickand rfl rfl rfl (fun h => by first | exact h | exact ⟨hg, h⟩) rfl) rfl rfl ?_ -- law.go:80 pick
  refine Runs_p rfl (Valid.movek (A := Is _) rfl rfl) rfl rfl ?_ -- law.go:80 move
  refine Runs_cnd rfl rfl (Grd.is rfl) [] (fun hg => trivial) (fun hg => Valid.movek (A := Is _) rfl rfl) (by rfl) rfl ?_
  refine Runs_cnd rfl rfl (Grd.is rfl) [(98, _)] (fun hg => ⟨cnd_at rfl (by first | exact hg | exact hg.1 | exact hg.1.1 | exact hg.1.1.1), trivial⟩) (fun hg => Valid.eql rfl rfl rfl) (by rfl) rfl ?_
  refine Runs_p rfl (Valid.pickand rfl rfl rfl (fun h => by first | exact h | exact ⟨hg, h⟩) rfl) rfl rfl ?_ -- law.go:80 pick
  refine Runs_p rfl (Valid.movek (A := Is _) rfl rfl) rfl rfl ?_ -- law.go:80 move
  refine Runs_cnd rfl rfl (Grd.is rfl) [] (fun hg => trivial) (fun hg => Valid.movek (A := Sl 1 _ _) rfl rfl) (by rfl) rfl ?_
  refine Runs_cnd rfl rfl (Grd.is rfl) [] (fun hg => trivial) (fun hg => Valid.movek (A := Sl 1 _ _) rfl rfl) (by rfl) rfl ?_
  refine Runs_cnd rfl rfl (Grd.is rfl) [(102, _), (103, _)] (fun hg => ⟨cnd_at rfl (by first | exact hg | exact hg.1 | exact hg.1.1 | exact hg.1.1.1), cnd_at rfl (by first | exact hg | exact hg.1 | exact hg.1.1 | exact hg.1.1.1), trivial⟩) (fun hg => Valid.call rfl (ksame l (by (try simp only [decide_eq_true_eq, Bool.and_eq_true] at hg); omega)) ⟨argle_sl (Reads.sl rfl), argle_sl (Reads.sl rfl), trivial⟩) (by rfl) rfl ?_
  refine Runs_p rfl (Valid.pickand rfl rfl rfl (fun h => by first | exact h | exact ⟨hg, h⟩) rfl) rfl rfl ?_ -- law.go:80 pick
  refine Runs_p rfl (Valid.movek (A := Is _) rfl rfl) rfl rfl ?_ -- law.go:80 move
  refine Runs_cnd rfl rfl (Grd.is rfl) [] (fun hg => trivial) (fun hg => Valid.movek (A := Is _) rfl rfl) (by rfl) rfl ?_
  refine Runs_cnds (t := 16) rfl rfl (Grd.is rfl) [] (fun hg => trivial) (fun hg => Valid.fieldaddr (off' := 1) rfl rfl (fun _ _ => by kernel_rfl)) (by simp [Op.operands]) rfl rfl ?_
  refine Runs_cnd rfl rfl (Grd.is rfl) [(108, _)] (fun hg => ⟨cnd_at rfl (by first | exact hg | exact hg.1 | exact hg.1.1 | exact hg.1.1.1), trivial⟩) (fun hg => Valid.load _ rfl ag3 rfl rfl rfl) (by rfl) rfl ?_
  refine Runs_cnds (t := 14) rfl rfl (Grd.is rfl) [] (fun hg => trivial) (fun hg => Valid.fieldaddr (off' := 1) rfl rfl (fun _ _ => by kernel_rfl)) (by simp [Op.operands]) rfl rfl ?_
  refine Runs_cnd rfl rfl (Grd.is rfl) [(110, _)] (fun hg => ⟨cnd_at rfl (by first | exact hg | exact hg.1 | exact hg.1.1 | exact hg.1.1.1), trivial⟩) (fun hg => Valid.load _ rfl ag3 rfl rfl rfl) (by rfl) rfl ?_
  refine Runs_cnd rfl rfl (Grd.is rfl) [(109, _), (111, _)] (fun hg => ⟨cnd_at rfl (by first | exact hg | exact hg.1 | exact hg.1.1 | exact hg.1.1.1), cnd_at rfl (by first | exact hg | exact hg.1 | exact hg.1.1 | exact hg.1.1.1), trivial⟩) (fun hg => Valid.add rfl rfl rfl (room64 (by (try simp only [decide_eq_true_eq, Bool.and_eq_true] at hg); first | omega | (simp only []; omega)) (by (try simp only [decide_eq_true_eq, Bool.and_eq_true] at hg); first | omega | (simp only []; omega)))) (by rfl) rfl ?_
  refine Runs_cnd rfl rfl (Grd.is rfl) [(107, _), (112, _)] (fun hg => ⟨cnd_at rfl (by first | exact hg | exact hg.1 | exact hg.1.1 | exact hg.1.1.1), cnd_at rfl (by first | exact hg | exact hg.1 | exact hg.1.1 | exact hg.1.1.1), trivial⟩) (fun hg => Valid.eql rfl rfl rfl) (by rfl) rfl ?_
  refine Runs_p rfl (Valid.pickand rfl rfl rfl (fun h => by first | exact h | exact ⟨hg, h⟩) rfl) rfl rfl ?_ -- law.go:80 pick
  refine Runs_p rfl (Valid.movek (A := Is _) rfl rfl) rfl rfl ?_ -- law.go:80 move
  refine Runs_cnd rfl rfl (Grd.is rfl) [] (fun hg => trivial) (fun hg => Valid.movek (A := Is _) rfl rfl) (by rfl) rfl ?_
  refine Runs_cnd rfl rfl (Grd.is rfl) [(116, _)] (fun hg => ⟨cnd_at rfl (by first | exact hg | exact hg.1 | exact hg.1.1 | exact hg.1.1.1), trivial⟩) (fun hg => Valid.eql rfl rfl rfl) (by rfl) rfl ?_
  refine Runs_p rfl (Valid.pickand rfl rfl rfl (fun h => by first | exact h | exact ⟨hg, h⟩) rfl) rfl rfl ?_ -- law.go:80 pick
  refine Runs_p rfl (Valid.movek (A := Is _) rfl rfl) rfl rfl ?_ -- law.go:80 move
  refine Runs_cnd rfl rfl (Grd.is rfl) [] (fun hg => trivial) (fun hg => Valid.movek (A := Sl 1 _ _) rfl rfl) (by rfl) rfl ?_
  refine Runs_cnd rfl rfl (Grd.is rfl) [] (fun hg => trivial) (fun hg => Valid.movek (A := Sl 1 _ _) rfl rfl) (by rfl) rfl ?_
  refine Runs_cnd rfl rfl (Grd.is rfl) [] (fun hg => trivial) (fun hg => Valid.movek (A := Is _) rfl rfl) (by rfl) rfl ?_
  refine Runs_cnd rfl rfl (Grd.is rfl) [(121, _), (122, _)] (fun hg => ⟨cnd_at rfl (by first | exact hg | exact hg.1 | exact hg.1.1 | exact hg.1.1.1), cnd_at rfl (by first | exact hg | exact hg.1 | exact hg.1.1 | exact hg.1.1.1), trivial⟩) (fun hg => Valid.sliceto1 rfl Try.underlying22 sz3 (Reads.sl rfl) rfl (by (try simp only [decide_eq_true_eq, Bool.and_eq_true] at hg); first | omega | (simp only [Int.toNat_natCast, toNat_add, toNat_add1, List.length_append, List.length_cons, List.length_nil, List.length_replicate]; omega))) (by rfl) rfl ?_
  refine Runs_cnd rfl rfl (Grd.is rfl) [(120, _), (123, _)] (fun hg => ⟨cnd_at rfl (by first | exact hg | exact hg.1 | exact hg.1.1 | exact hg.1.1.1), cnd_at rfl (by first | exact hg | exact hg.1 | exact hg.1.1 | exact hg.1.1.1), trivial⟩) (fun hg => Valid.call rfl (ints_t (l := l.take kk.toNat) (m := l.take kk.toNat) hkl.symm rfl (by (try simp only [decide_eq_true_eq, Bool.and_eq_true] at hg); omega) (by (try simp only [decide_eq_true_eq, Bool.and_eq_true] at hg); rw [List.map_take]) (by (try simp only [decide_eq_true_eq, Bool.and_eq_true] at hg); omega) rfl) ⟨argle_sl (Reads.sl rfl), argle_sl (Reads.sl rfl), trivial⟩) (by rfl) rfl ?_
  refine Runs_p rfl (Valid.pickand rfl rfl rfl (fun h => by first | exact h | exact ⟨hg, h⟩) rfl) rfl rfl ?_ -- law.go:80 pick
  refine Runs_p rfl (Valid.movek (A := Is _) rfl rfl) rfl rfl ?_ -- law.go:80 move
  refine Runs_cnd rfl rfl (Grd.is rfl) [] (fun hg => trivial) (fun hg => Valid.movek (A := Is _) rfl rfl) (by rfl) rfl ?_
  refine Runs_cnd rfl rfl (Grd.is rfl) [(127, _)] (fun hg => ⟨cnd_at rfl (by first | exact hg | exact hg.1 | exact hg.1.1 | exact hg.1.1.1), trivial⟩) (fun hg => Valid.eql rfl rfl rfl) (by rfl) rfl ?_
  refine Runs_p rfl (Valid.pickand rfl rfl rfl (fun h => by first | exact h | exact ⟨hg, h⟩) rfl) rfl rfl ?_ -- law.go:80 pick
  refine Runs_p rfl (Valid.movek (A := Is _) rfl rfl) rfl rfl ?_ -- law.go:80 move
  refine Runs_cnd rfl rfl (Grd.is rfl) [] (fun hg => trivial) (fun hg => Valid.movek (A := Is _) rfl rfl) (by rfl) rfl ?_
  refine Runs_cnds (t := 16) rfl rfl (Grd.is rfl) [] (fun hg => trivial) (fun hg => Valid.fieldaddr (off' := 1) rfl rfl (fun _ _ => by kernel_rfl)) (by simp [Op.operands]) rfl rfl ?_
  refine Runs_cnd rfl rfl (Grd.is rfl) [(132, _)] (fun hg => ⟨cnd_at rfl (by first | exact hg | exact hg.1 | exact hg.1.1 | exact hg.1.1.1), trivial⟩) (fun hg => Valid.load _ rfl ag3 rfl rfl rfl) (by rfl) rfl ?_
  refine Runs_cnds (t := 26) rfl rfl (Grd.is rfl) [] (fun hg => trivial) (fun hg => Valid.fieldaddr (off' := 1) rfl rfl (fun _ _ => by kernel_rfl)) (by simp [Op.operands]) rfl rfl ?_
  refine Runs_cnd rfl rfl (Grd.is rfl) [(134, _)] (fun hg => ⟨cnd_at rfl (by first | exact hg | exact hg.1 | exact hg.1.1 | exact hg.1.1.1), trivial⟩) (fun hg => Valid.load _ rfl ag3 rfl rfl rfl) (by rfl) rfl ?_
  refine Runs_cnd rfl rfl (Grd.is rfl) [(133, _), (135, _)] (fun hg => ⟨cnd_at rfl (by first | exact hg | exact hg.1 | exact hg.1.1 | exact hg.1.1.1), cnd_at rfl (by first | exact hg | exact hg.1 | exact hg.1.1 | exact hg.1.1.1), trivial⟩) (fun hg => Valid.add rfl rfl rfl (room64 (by (try simp only [decide_eq_true_eq, Bool.and_eq_true] at hg); first | omega | (simp only []; omega)) (by (try simp only [decide_eq_true_eq, Bool.and_eq_true] at hg); first | omega | (simp only []; omega)))) (by rfl) rfl ?_
  refine Runs_cnd rfl rfl (Grd.is rfl) [(131, _), (136, _)] (fun hg => ⟨cnd_at rfl (by first | exact hg | exact hg.1 | exact hg.1.1 | exact hg.1.1.1), cnd_at rfl (by first | exact hg | exact hg.1 | exact hg.1.1 | exact hg.1.1.1), trivial⟩) (fun hg => Valid.eql rfl rfl rfl) (by rfl) rfl ?_
  refine Runs_p rfl (Valid.pickand rfl rfl rfl (fun h => by first | exact h | exact ⟨hg, h⟩) rfl) rfl rfl ?_ -- law.go:80 pick
  refine Runs_p rfl (Valid.assignk (A := Is _) rfl rfl) rfl rfl ?_ -- law.go:80 assign
  refine Runs_nil ?_
  refine thenQ_n ?_
  refine W_ret ?_
  refine finQ_r ?_
  refine ResOk.one rfl (RVal.is rfl rfl (by simp [hbe]))
end Ej
end Go.Proofs.Ytkjmdnehlodihaa
