/-
  WALKS of stage 8: the law that is awake.
-/
import Derived.Test.YtnomocicogbdpaaRows
import Derived.Test.YtnomocicogbdpaaMgc
import Derived.Test.YtnomocicogbdpaaOa
import Derived.Test.YtnomocicogbdpaaOb
import Derived.Test.YtnomocicogbdpaaOc
import Derived.Test.YtnomocicogbdpaaOd
import Derived.Test.YtnomocicogbdpaaOe
import Derived.Test.YtnomocicogbdpaaOf
import Derived.Test.YtnomocicogbdpaaOg
import Derived.Test.YtnomocicogbdpaaOh
import Derived.Test.YtnomocicogbdpaaOi
import Derived.Test.YtnomocicogbdpaaOj
import Derived.Test.YtnomocicogbdpaaOm
import Derived.Test.YtnomocicogbdpaaOk
import Derived.Test.YtnomocicogbdpaaOl
import Derived.Test.YtnomocicogbdpaaCa
import Derived.Test.YtnomocicogbdpaaMha
namespace Go.Proofs.Ytnomocicogbdpaa
open Go.RowKit
namespace On
open Ab Bm Bt Oa Ob Oc Od Oe Of Og Oh Oi Oj Om Ok Ol Ca Bb
theorem ag34 (w : World) : (isAgg 34).run Try.prog w = .ok true w := by kernel_rfl
theorem ag37 (w : World) : (isAgg 37).run Try.prog w = .ok true w := by kernel_rfl
theorem sz34 (w : World) : (sizeOf 34).run Try.prog w = .ok 2 w := by kernel_rfl
theorem sz37 (w : World) : (sizeOf 37).run Try.prog w = .ok 2 w := by kernel_rfl
theorem tf34 : TwoI Try.prog 34 .i64 .u64 { name := "Len", type := 3, offset := 0, embedded := false, tag := "", pkgPath := "", byteOffset := 0 } { name := "Bits", type := 32, offset := 1, embedded := false, tag := "", pkgPath := "", byteOffset := 8 } where
  und := by kernel_rfl
  plain := by kernel_rfl
  guard := by kernel_rfl
  flds := by kernel_rfl
  nf := by decide
  ng := by decide
  sf := Try.underlying3
  sg := Try.underlying32
  pf := fun _ _ _ => by kernel_rfl
  pg := fun _ _ _ => by kernel_rfl
theorem tf37 : TwoF Try.prog 37 .i64 { name := "Data", type := 9, offset := 0, embedded := false, tag := "", pkgPath := "", byteOffset := 0 } { name := "N", type := 3, offset := 1, embedded := false, tag := "", pkgPath := "", byteOffset := 16 } where
  und := by kernel_rfl
  plain := by kernel_rfl
  guard := by kernel_rfl
  flds := by kernel_rfl
  nf := by decide
  ng := by decide
  sf := Try.underlying9
  sg := Try.underlying3
  pf := fun _ _ _ => by kernel_rfl
  pg := fun _ _ _ => by kernel_rfl
theorem zv37 (w : World) : (zeroValue 37).run Try.prog w = .ok (.agg #[(Value.string ⟨#[]⟩), (Value.int .i64 0)]) w := by kernel_rfl
abbrev l3 : List Int := [2, 1, 2]
theorem kS : sndV l3 = ([0, 1, 2, 0, 0, 0, 0, 0, 0, 0, 0, 0, 0, 0, 0, 0, 0, 0, 0, 0, 0], 0) := by kernel_rfl
theorem kW : wdV l3 = [(2, 2), (1, 0), (2, 3)] := by kernel_rfl
theorem kP : putV l3 [2, 1, 0] = ((⟨#[0xd0]⟩, 5), 0) := by kernel_rfl
theorem kP2 : putV l3 [3] = ((⟨#[]⟩, 0), 5) := by kernel_rfl
theorem kT : takV l3 ⟨#[0xd0]⟩ 0 = (2, 2, 0) := by kernel_rfl
theorem kT2 : takV l3 ⟨#[0xff]⟩ 7 = (0, 0, 2) := by kernel_rfl
theorem kT3 : takV [2, 2] ⟨#[0xff]⟩ 0 = (0, 0, 3) := by kernel_rfl
theorem kC : (sndV [1, 1, 1]).2 = 6 := by kernel_rfl
theorem kC1 : (sndV [1]).2 = 1 := by kernel_rfl
theorem in_dec {l : List Int} (h : l.all (fun x => decide (-9223372036854775808 ≤ x ∧ x ≤ 9223372036854775807)) = true) : In64 l := fun x hx => of_decide_eq_true (List.all_eq_true.1 h x hx)
theorem aw_w : FPure Try.prog 13 [Sl 1 3 (l3.map (Value.int .i64))] (Tup [Sl 2 3 (wcells [(2, 2), (1, 0), (2, 3)]), Is (.int .i64 0)]) := by
  have h := words_s l3 (in_dec rfl) (by decide)
  rw [kW, kS] at h
  exact h
theorem aw_p {m : List Int} {n : Nat} {r : (ByteArray × Int) × Int} (hr : putV l3 m = r) (hn : n = m.length) (hm : m.length ≤ 1000) : FPure Try.prog 18 [Sl 1 3 (l3.map (Value.int .i64)), Sl 1 n (m.map (Value.int .i64))] (Tup [Agg [Is (.string r.1.1), Is (.int .i64 r.1.2)], Is (.int .i64 r.2)]) := by
  subst hr hn
  exact cput_s l3 (in_dec rfl) (by decide) m (by omega)
theorem aw_t {l : List Int} {n : Nat} {s : ByteArray} {a x y e : Int} (hr : takV l s a = (x, y, e)) (hn : n = l.length) (hi : In64 l) (hl : l.length ≤ 10) (hs : s.size ≤ 100) (ha : 0 ≤ a ∧ a ≤ 100) : FPure Try.prog 20 [Sl 1 n (l.map (Value.int .i64)), Is (.string s), Is (.int .i64 a)] (Tup [Is (.int .i64 x), Is (.int .i64 y), Is (.int .i64 e)]) := by
  subst hn
  have h := take_s l hi (by omega) s (by omega) a (by omega)
  rw [hr] at h
  exact h
theorem aw_c {l : List Int} {n : Nat} {e : Int} (hr : (sndV l).2 = e) (hn : n = l.length) (hi : In64 l) (hl : l.length ≤ 10) : FPure Try.prog 15 [Sl 1 n (l.map (Value.int .i64))] (Is (.int .i64 e)) := by
  subst hn
  have h := check_s l hi (by omega)
  rw [hr] at h
  exact h
theorem kC0 : (sndV l3).2 = 0 := by rw [kS]

set_option maxRecDepth 100000 in
set_option maxHeartbeats 1000000 in
theorem awake8_s  :
    FPure Try.prog 10 [] (Is (.bool true)) := by
  refine FPure.of Try.func10 Try.ntmps10 rfl (by kernel_rfl) rfl rfl rfl ?_
  refine W_seq ?_
  refine W_regionE (c := 1) (c' := 2) (by kernel_rfl) rfl ?_
  refine Runs_p rfl (Valid.assignk (A := Is _) rfl rfl) rfl rfl ?_ -- law.go:56 assign
  refine Runs_nil ?_
  refine thenQ_n ?_
  refine W_seq ?_
  refine W_regionE (c := 2) (c' := 4) (by kernel_rfl) rfl ?_
  refine Runs_p rfl (Valid.lit (el := 3) (l3.map (Value.int .i64)) rfl rfl (fun _ => by kernel_rfl) rfl (by decide)) rfl rfl ?_ -- law.go:57 buildSlice
  refine Runs_p rfl (Valid.assignk (A := Sl 1 _ _) rfl rfl) rfl rfl ?_ -- law.go:57 assign
  refine Runs_nil ?_
  refine thenQ_n ?_
  refine W_seq ?_
  refine W_regionE (c := 4) (c' := 11) (by kernel_rfl) rfl ?_
  refine Runs_p rfl (Valid.movek (A := Sl 1 _ _) rfl rfl) rfl rfl ?_ -- law.go:58 move
  refine Runs_p rfl (Valid.call rfl (aw_w) ⟨argle_sl (Reads.sl rfl), trivial⟩) rfl rfl ?_ -- law.go:58 call
  refine Runs_p rfl (Valid.movek (A := Tup [Sl 2 _ _, Is _]) rfl rfl) rfl rfl ?_ -- law.go:58 move
  refine Runs_p rfl (Valid.extract _ rfl rfl rfl) rfl rfl ?_ -- law.go:58 extract
  refine Runs_p rfl (Valid.extract _ rfl rfl rfl) rfl rfl ?_ -- law.go:58 extract
  refine Runs_p rfl (Valid.assignk (A := Sl 2 _ _) rfl rfl) rfl rfl ?_ -- law.go:58 assign
  refine Runs_p rfl (Valid.assignk (A := Is _) rfl rfl) rfl rfl ?_ -- law.go:58 assign
  refine Runs_nil ?_
  refine thenQ_n ?_
  refine W_seq ?_
  refine W_regionE (c := 11) (c' := 20) (by kernel_rfl) rfl ?_
  refine Runs_p rfl (Valid.movek (A := Sl 1 _ _) rfl rfl) rfl rfl ?_ -- law.go:59 move
  refine Runs_p rfl (Valid.lit (el := 3) (([2, 1, 0] : List Int).map (Value.int .i64)) rfl rfl (fun _ => by kernel_rfl) rfl (by decide)) rfl rfl ?_ -- law.go:59 buildSlice
  refine Runs_p rfl (Valid.call rfl (aw_p kP rfl (by decide)) ⟨argle_sl (Reads.sl rfl), argle_sl (Reads.sl rfl), trivial⟩) rfl rfl ?_ -- law.go:59 call
  refine Runs_p rfl (Valid.movek (A := Tup [Agg [Is _, Is _], Is _]) rfl rfl) rfl rfl ?_ -- law.go:59 move
  refine Runs_p rfl (Valid.extract _ rfl rfl rfl) rfl rfl ?_ -- law.go:59 extract
  refine Runs_p rfl (Valid.extract _ rfl rfl rfl) rfl rfl ?_ -- law.go:59 extract
  refine Runs_w rfl (Valid.alloc [(Value.string ⟨#[]⟩), (Value.int .i64 0)] rfl zv37 rfl) rfl rfl ?_ -- law.go:59 alloc
  refine Runs_op rfl (Valid.storeagg (l := [_, _]) rfl sz37 rfl rfl (Nat.le_of_ble_eq_true rfl) rfl ⟨(One.is rfl rfl rfl), (One.is rfl rfl rfl), trivial⟩) rfl ?_ -- law.go:59 store
  refine Runs_p rfl (Valid.assignk (A := Is _) rfl rfl) rfl rfl ?_ -- law.go:59 assign
  refine Runs_nil ?_
  refine thenQ_n ?_
  refine W_seq ?_
  refine W_regionE (c := 20) (c' := 29) (by kernel_rfl) rfl ?_
  refine Runs_p rfl (Valid.movek (A := Sl 1 _ _) rfl rfl) rfl rfl ?_ -- law.go:60 move
  refine Runs_p rfl (Valid.call rfl (aw_t kT rfl (in_dec rfl) (by decide) (by decide) (by decide)) ⟨argle_sl (Reads.sl rfl), argle rfl, argle rfl, trivial⟩) rfl rfl ?_ -- law.go:60 call
  refine Runs_p rfl (Valid.movek (A := Tup [Is _, Is _, Is _]) rfl rfl) rfl rfl ?_ -- law.go:60 move
  refine Runs_p rfl (Valid.extract _ rfl rfl rfl) rfl rfl ?_ -- law.go:60 extract
  refine Runs_p rfl (Valid.extract _ rfl rfl rfl) rfl rfl ?_ -- law.go:60 extract
  refine Runs_p rfl (Valid.extract _ rfl rfl rfl) rfl rfl ?_ -- law.go:60 extract
  refine Runs_p rfl (Valid.assignk (A := Is _) rfl rfl) rfl rfl ?_ -- law.go:60 assign
  refine Runs_p rfl (Valid.assignk (A := Is _) rfl rfl) rfl rfl ?_ -- law.go:60 assign
  refine Runs_p rfl (Valid.assignk (A := Is _) rfl rfl) rfl rfl ?_ -- law.go:60 assign
  refine Runs_nil ?_
  refine thenQ_n ?_
  refine W_seq ?_
  refine W_regionE (c := 29) (c' := 38) (by kernel_rfl) rfl ?_
  refine Runs_p rfl (Valid.movek (A := Sl 1 _ _) rfl rfl) rfl rfl ?_ -- law.go:61 move
  refine Runs_p rfl (Valid.call rfl (aw_t kT2 rfl (in_dec rfl) (by decide) (by decide) (by decide)) ⟨argle_sl (Reads.sl rfl), argle rfl, argle rfl, trivial⟩) rfl rfl ?_ -- law.go:61 call
  refine Runs_p rfl (Valid.movek (A := Tup [Is _, Is _, Is _]) rfl rfl) rfl rfl ?_ -- law.go:61 move
  refine Runs_p rfl (Valid.extract _ rfl rfl rfl) rfl rfl ?_ -- law.go:61 extract
  refine Runs_p rfl (Valid.extract _ rfl rfl rfl) rfl rfl ?_ -- law.go:61 extract
  refine Runs_p rfl (Valid.extract _ rfl rfl rfl) rfl rfl ?_ -- law.go:61 extract
  refine Runs_p rfl (Valid.assignk (A := Is _) rfl rfl) rfl rfl ?_ -- law.go:61 assign
  refine Runs_p rfl (Valid.assignk (A := Is _) rfl rfl) rfl rfl ?_ -- law.go:61 assign
  refine Runs_p rfl (Valid.assignk (A := Is _) rfl rfl) rfl rfl ?_ -- law.go:61 assign
  refine Runs_nil ?_
  refine thenQ_n ?_
  refine W_seq ?_
  refine W_regionE (c := 38) (c' := 47) (by kernel_rfl) rfl ?_
  refine Runs_p rfl (Valid.lit (el := 3) (([2, 2] : List Int).map (Value.int .i64)) rfl rfl (fun _ => by kernel_rfl) rfl (by decide)) rfl rfl ?_ -- law.go:62 buildSlice
  refine Runs_p rfl (Valid.call rfl (aw_t kT3 rfl (in_dec rfl) (by decide) (by decide) (by decide)) ⟨argle_sl (Reads.sl rfl), argle rfl, argle rfl, trivial⟩) rfl rfl ?_ -- law.go:62 call
  refine Runs_p rfl (Valid.movek (A := Tup [Is _, Is _, Is _]) rfl rfl) rfl rfl ?_ -- law.go:62 move
  refine Runs_p rfl (Valid.extract _ rfl rfl rfl) rfl rfl ?_ -- law.go:62 extract
  refine Runs_p rfl (Valid.extract _ rfl rfl rfl) rfl rfl ?_ -- law.go:62 extract
  refine Runs_p rfl (Valid.extract _ rfl rfl rfl) rfl rfl ?_ -- law.go:62 extract
  refine Runs_p rfl (Valid.assignk (A := Is _) rfl rfl) rfl rfl ?_ -- law.go:62 assign
  refine Runs_p rfl (Valid.assignk (A := Is _) rfl rfl) rfl rfl ?_ -- law.go:62 assign
  refine Runs_p rfl (Valid.assignk (A := Is _) rfl rfl) rfl rfl ?_ -- law.go:62 assign
  refine Runs_nil ?_
  refine thenQ_n ?_
  refine W_seq ?_
  refine W_regionE (c := 47) (c' := 56) (by kernel_rfl) rfl ?_
  refine Runs_p rfl (Valid.movek (A := Sl 1 _ _) rfl rfl) rfl rfl ?_ -- law.go:63 move
  refine Runs_p rfl (Valid.lit (el := 3) (([3] : List Int).map (Value.int .i64)) rfl rfl (fun _ => by kernel_rfl) rfl (by decide)) rfl rfl ?_ -- law.go:63 buildSlice
  refine Runs_p rfl (Valid.call rfl (aw_p kP2 rfl (by decide)) ⟨argle_sl (Reads.sl rfl), argle_sl (Reads.sl rfl), trivial⟩) rfl rfl ?_ -- law.go:63 call
  refine Runs_p rfl (Valid.movek (A := Tup [Agg [Is _, Is _], Is _]) rfl rfl) rfl rfl ?_ -- law.go:63 move
  refine Runs_p rfl (Valid.extract _ rfl rfl rfl) rfl rfl ?_ -- law.go:63 extract
  refine Runs_p rfl (Valid.extract _ rfl rfl rfl) rfl rfl ?_ -- law.go:63 extract
  refine Runs_w rfl (Valid.alloc [(Value.string ⟨#[]⟩), (Value.int .i64 0)] rfl zv37 rfl) rfl rfl ?_ -- law.go:63 alloc
  refine Runs_op rfl (Valid.storeagg (l := [_, _]) rfl sz37 rfl rfl (Nat.le_of_ble_eq_true rfl) rfl ⟨(One.is rfl rfl rfl), (One.is rfl rfl rfl), trivial⟩) rfl ?_ -- law.go:63 store
  refine Runs_p rfl (Valid.assignk (A := Is _) rfl rfl) rfl rfl ?_ -- law.go:63 assign
  refine Runs_nil ?_
  refine thenQ_n ?_
  refine W_seq ?_
  refine W_seq ?_
  refine W_regionE (c := 56) (c' := 59) (by kernel_rfl) rfl ?_
  refine Runs_p rfl (Valid.movek (A := Sl 2 _ _) rfl rfl) rfl rfl ?_ -- law.go:64 move
  refine Runs_p rfl (Valid.len rfl Try.underlying27 (Reads.sl rfl)) rfl rfl ?_ -- law.go:64 call
  refine Runs_p rfl (Valid.neq rfl rfl rfl) rfl rfl ?_ -- law.go:64 binOp
  refine Runs_nil ?_
  refine thenQ_n ?_
  refine W_cond _ rfl (fun hb1 => ?_) (fun hb1 => ?_)
  · try simp only [decide_eq_true_eq, ne_eq] at hb1
    all_goals (
      exfalso
      omega
      
      done)
  · try simp only [decide_eq_false_iff_not, ne_eq] at hb1
    all_goals (
      refine W_skip ?_
      refine thenQ_n ?_
      refine W_seq ?_
      refine W_regionE (c := 59) (c' := 131) (by kernel_rfl) rfl ?_
      refine Runs_p rfl (Valid.movek (A := Is _) rfl rfl) rfl rfl ?_ -- law.go:67 move
      refine Runs_p rfl (Valid.eql rfl rfl rfl) rfl rfl ?_ -- law.go:67 binOp
      refine Runs_p rfl (Valid.movek (A := Is _) rfl rfl) rfl rfl ?_ -- law.go:67 move
      refine Runs_yesp rfl rfl (Grd.is rfl) (by decide) (Valid.movek (A := Sl 2 _ _) rfl rfl) rfl rfl ?_ -- law.go:67 move
      refine Runs_yesp rfl rfl (Grd.is rfl) (by decide) (Valid.eltE (f := (fun p : Int × Int => [Value.int .i64 p.1, Value.int .u64 p.2])) (0, 0) rfl (fun _ => rfl) Try.underlying27 sz34 (Reads.sl rfl) rfl (by first | omega | (simp only [Int.toNat_natCast, toNat_add, toNat_add1, List.length_append, List.length_cons, List.length_nil, List.length_replicate]; omega)) (by first | rfl | simp)) rfl rfl ?_ -- law.go:67 indexAddr
      refine Runs_yesp rfl rfl (Grd.is rfl) (by decide) (Valid.loadeltagg (vs := [_, _]) rfl ag34 sz34 rfl) rfl rfl ?_ -- law.go:67 load
      refine Runs_yesp rfl rfl (Grd.is rfl) (by decide) (Valid.struct [_, _] rfl rfl (fun _ => by kernel_rfl)) rfl rfl ?_ -- law.go:67 build
      refine Runs_yesp rfl rfl (Grd.is rfl) (by decide) (Valid.seqI tf34 rfl rfl rfl) rfl rfl ?_ -- law.go:67 binOp
      refine Runs_p rfl (Valid.pickt (A := Is _) rfl rfl rfl) rfl rfl ?_ -- law.go:67 pick
      refine Runs_p rfl (Valid.movek (A := Is _) rfl rfl) rfl rfl ?_ -- law.go:67 move
      refine Runs_yesp rfl rfl (Grd.is rfl) (by decide) (Valid.movek (A := Sl 2 _ _) rfl rfl) rfl rfl ?_ -- law.go:67 move
      refine Runs_yesp rfl rfl (Grd.is rfl) (by decide) (Valid.eltE (f := (fun p : Int × Int => [Value.int .i64 p.1, Value.int .u64 p.2])) (0, 0) rfl (fun _ => rfl) Try.underlying27 sz34 (Reads.sl rfl) rfl (by first | omega | (simp only [Int.toNat_natCast, toNat_add, toNat_add1, List.length_append, List.length_cons, List.length_nil, List.length_replicate]; omega)) (by first | rfl | simp)) rfl rfl ?_ -- law.go:67 indexAddr
      refine Runs_yesp rfl rfl (Grd.is rfl) (by decide) (Valid.loadeltagg (vs := [_, _]) rfl ag34 sz34 rfl) rfl rfl ?_ -- law.go:67 load
      refine Runs_yesp rfl rfl (Grd.is rfl) (by decide) (Valid.build1 [] [(Value.int .u64 0)] rfl rfl (fun _ => by kernel_rfl)) rfl rfl ?_ -- law.go:67 build
      refine Runs_yesp rfl rfl (Grd.is rfl) (by decide) (Valid.seqI tf34 rfl rfl rfl) rfl rfl ?_ -- law.go:67 binOp
      refine Runs_p rfl (Valid.pickt (A := Is _) rfl rfl rfl) rfl rfl ?_ -- law.go:67 pick
      refine Runs_p rfl (Valid.movek (A := Is _) rfl rfl) rfl rfl ?_ -- law.go:67 move
      refine Runs_yesp rfl rfl (Grd.is rfl) (by decide) (Valid.movek (A := Sl 2 _ _) rfl rfl) rfl rfl ?_ -- law.go:67 move
      refine Runs_yesp rfl rfl (Grd.is rfl) (by decide) (Valid.eltE (f := (fun p : Int × Int => [Value.int .i64 p.1, Value.int .u64 p.2])) (0, 0) rfl (fun _ => rfl) Try.underlying27 sz34 (Reads.sl rfl) rfl (by first | omega | (simp only [Int.toNat_natCast, toNat_add, toNat_add1, List.length_append, List.length_cons, List.length_nil, List.length_replicate]; omega)) (by first | rfl | simp)) rfl rfl ?_ -- law.go:67 indexAddr
      refine Runs_yesp rfl rfl (Grd.is rfl) (by decide) (Valid.loadeltagg (vs := [_, _]) rfl ag34 sz34 rfl) rfl rfl ?_ -- law.go:67 load
      refine Runs_yesp rfl rfl (Grd.is rfl) (by decide) (Valid.struct [_, _] rfl rfl (fun _ => by kernel_rfl)) rfl rfl ?_ -- law.go:67 build
      refine Runs_yesp rfl rfl (Grd.is rfl) (by decide) (Valid.seqI tf34 rfl rfl rfl) rfl rfl ?_ -- law.go:67 binOp
      refine Runs_p rfl (Valid.pickt (A := Is _) rfl rfl rfl) rfl rfl ?_ -- law.go:67 pick
      refine Runs_p rfl (Valid.movek (A := Is _) rfl rfl) rfl rfl ?_ -- law.go:67 move
      refine Runs_yesp rfl rfl (Grd.is rfl) (by decide) (Valid.movek (A := Is _) rfl rfl) rfl rfl ?_ -- law.go:67 move
      refine Runs_yesp rfl rfl (Grd.is rfl) (by decide) (Valid.eql rfl rfl rfl) rfl rfl ?_ -- law.go:67 binOp
      refine Runs_p rfl (Valid.pickt (A := Is _) rfl rfl rfl) rfl rfl ?_ -- law.go:67 pick
      refine Runs_p rfl (Valid.movek (A := Is _) rfl rfl) rfl rfl ?_ -- law.go:67 move
      refine Runs_yesp rfl rfl (Grd.is rfl) (by decide) (Valid.loadagg rfl ag37 sz37 rfl rfl (Nat.le_of_ble_eq_true rfl)) rfl rfl ?_ -- law.go:67 load
      refine Runs_yesp rfl rfl (Grd.is rfl) (by decide) (Valid.struct [_, _] rfl rfl (fun _ => by kernel_rfl)) rfl rfl ?_ -- law.go:67 build
      refine Runs_yesp rfl rfl (Grd.is rfl) (by decide) (Valid.seqS tf37 rfl rfl rfl) rfl rfl ?_ -- law.go:67 binOp
      refine Runs_p rfl (Valid.pickt (A := Is _) rfl rfl rfl) rfl rfl ?_ -- law.go:67 pick
      refine Runs_p rfl (Valid.movek (A := Is _) rfl rfl) rfl rfl ?_ -- law.go:67 move
      refine Runs_yesp rfl rfl (Grd.is rfl) (by decide) (Valid.movek (A := Is _) rfl rfl) rfl rfl ?_ -- law.go:67 move
      refine Runs_yesp rfl rfl (Grd.is rfl) (by decide) (Valid.eql rfl rfl rfl) rfl rfl ?_ -- law.go:67 binOp
      refine Runs_p rfl (Valid.pickt (A := Is _) rfl rfl rfl) rfl rfl ?_ -- law.go:67 pick
      refine Runs_p rfl (Valid.movek (A := Is _) rfl rfl) rfl rfl ?_ -- law.go:67 move
      refine Runs_yesp rfl rfl (Grd.is rfl) (by decide) (Valid.movek (A := Is _) rfl rfl) rfl rfl ?_ -- law.go:67 move
      refine Runs_yesp rfl rfl (Grd.is rfl) (by decide) (Valid.eql rfl rfl rfl) rfl rfl ?_ -- law.go:67 binOp
      refine Runs_p rfl (Valid.pickt (A := Is _) rfl rfl rfl) rfl rfl ?_ -- law.go:67 pick
      refine Runs_p rfl (Valid.movek (A := Is _) rfl rfl) rfl rfl ?_ -- law.go:67 move
      refine Runs_yesp rfl rfl (Grd.is rfl) (by decide) (Valid.movek (A := Is _) rfl rfl) rfl rfl ?_ -- law.go:67 move
      refine Runs_yesp rfl rfl (Grd.is rfl) (by decide) (Valid.eql rfl rfl rfl) rfl rfl ?_ -- law.go:67 binOp
      refine Runs_p rfl (Valid.pickt (A := Is _) rfl rfl rfl) rfl rfl ?_ -- law.go:67 pick
      refine Runs_p rfl (Valid.movek (A := Is _) rfl rfl) rfl rfl ?_ -- law.go:67 move
      refine Runs_yesp rfl rfl (Grd.is rfl) (by decide) (Valid.movek (A := Is _) rfl rfl) rfl rfl ?_ -- law.go:67 move
      refine Runs_yesp rfl rfl (Grd.is rfl) (by decide) (Valid.eql rfl rfl rfl) rfl rfl ?_ -- law.go:67 binOp
      refine Runs_p rfl (Valid.pickt (A := Is _) rfl rfl rfl) rfl rfl ?_ -- law.go:67 pick
      refine Runs_p rfl (Valid.movek (A := Is _) rfl rfl) rfl rfl ?_ -- law.go:67 move
      refine Runs_yesp rfl rfl (Grd.is rfl) (by decide) (Valid.movek (A := Is _) rfl rfl) rfl rfl ?_ -- law.go:67 move
      refine Runs_yesp rfl rfl (Grd.is rfl) (by decide) (Valid.eql rfl rfl rfl) rfl rfl ?_ -- law.go:67 binOp
      refine Runs_p rfl (Valid.pickt (A := Is _) rfl rfl rfl) rfl rfl ?_ -- law.go:67 pick
      refine Runs_p rfl (Valid.movek (A := Is _) rfl rfl) rfl rfl ?_ -- law.go:67 move
      refine Runs_yesp rfl rfl (Grd.is rfl) (by decide) (Valid.movek (A := Is _) rfl rfl) rfl rfl ?_ -- law.go:67 move
      refine Runs_yesp rfl rfl (Grd.is rfl) (by decide) (Valid.eql rfl rfl rfl) rfl rfl ?_ -- law.go:67 binOp
      refine Runs_p rfl (Valid.pickt (A := Is _) rfl rfl rfl) rfl rfl ?_ -- law.go:67 pick
      refine Runs_p rfl (Valid.movek (A := Is _) rfl rfl) rfl rfl ?_ -- law.go:67 move
      refine Runs_yesp rfl rfl (Grd.is rfl) (by decide) (Valid.lit (el := 3) [_, _, _] rfl rfl (fun _ => by kernel_rfl) rfl (by decide)) rfl rfl ?_ -- law.go:67 buildSlice
      refine Runs_yesp rfl rfl (Grd.is rfl) (by decide) (Valid.call rfl (aw_c kC rfl (in_dec rfl) (by decide)) ⟨argle_sl (Reads.sl rfl), trivial⟩) rfl rfl ?_ -- law.go:67 call
      refine Runs_yesp rfl rfl (Grd.is rfl) (by decide) (Valid.eql rfl rfl rfl) rfl rfl ?_ -- law.go:67 binOp
      refine Runs_p rfl (Valid.pickt (A := Is _) rfl rfl rfl) rfl rfl ?_ -- law.go:67 pick
      refine Runs_p rfl (Valid.movek (A := Is _) rfl rfl) rfl rfl ?_ -- law.go:67 move
      refine Runs_yesp rfl rfl (Grd.is rfl) (by decide) (Valid.lit (el := 3) [_] rfl rfl (fun _ => by kernel_rfl) rfl (by decide)) rfl rfl ?_ -- law.go:67 buildSlice
      refine Runs_yesp rfl rfl (Grd.is rfl) (by decide) (Valid.call rfl (aw_c kC1 rfl (in_dec rfl) (by decide)) ⟨argle_sl (Reads.sl rfl), trivial⟩) rfl rfl ?_ -- law.go:67 call
      refine Runs_yesp rfl rfl (Grd.is rfl) (by decide) (Valid.eql rfl rfl rfl) rfl rfl ?_ -- law.go:67 binOp
      refine Runs_p rfl (Valid.pickt (A := Is _) rfl rfl rfl) rfl rfl ?_ -- law.go:67 pick
      refine Runs_p rfl (Valid.movek (A := Is _) rfl rfl) rfl rfl ?_ -- law.go:67 move
      refine Runs_yesp rfl rfl (Grd.is rfl) (by decide) (Valid.movek (A := Sl 1 _ _) rfl rfl) rfl rfl ?_ -- law.go:67 move
      refine Runs_yesp rfl rfl (Grd.is rfl) (by decide) (Valid.call rfl (aw_c kC0 rfl (in_dec rfl) (by decide)) ⟨argle_sl (Reads.sl rfl), trivial⟩) rfl rfl ?_ -- law.go:67 call
      refine Runs_yesp rfl rfl (Grd.is rfl) (by decide) (Valid.eql rfl rfl rfl) rfl rfl ?_ -- law.go:67 binOp
      refine Runs_p rfl (Valid.pickt (A := Is _) rfl rfl rfl) rfl rfl ?_ -- law.go:67 pick
      refine Runs_p rfl (Valid.assignk (A := Is _) rfl rfl) rfl rfl ?_ -- law.go:67 assign
      refine Runs_nil ?_
      refine thenQ_n ?_
      refine W_ret ?_
      refine finQ_r ?_
      refine ResOk.one rfl (RVal.is rfl rfl (rfl))
      done)
end On
end Go.Proofs.Ytnomocicogbdpaa
