/-
  WALKS of stage 7: the law that is awake.
-/
import Derived.Test.YtlcephckjhiggaaRows
import Derived.Test.YtlcephckjhiggaaAbt
import Derived.Test.YtlcephckjhiggaaBb
import Derived.Test.YtlcephckjhiggaaCa
import Derived.Test.YtlcephckjhiggaaGa
import Derived.Test.YtlcephckjhiggaaGb
import Derived.Test.YtlcephckjhiggaaGc
import Derived.Test.YtlcephckjhiggaaGd
import Derived.Test.YtlcephckjhiggaaGe
import Derived.Test.YtlcephckjhiggaaGf
import Derived.Test.YtlcephckjhiggaaGg
import Derived.Test.YtlcephckjhiggaaGh
import Derived.Test.YtlcephckjhiggaaGi
namespace Go.Proofs.Ytlcephckjhiggaa
open Go.RowKit
namespace Gj
open Ab Bm Bt Bb Ca Ga Gb Gc Gd Ge Gf Gg Gh Gi
theorem tf25 : TwoF Try.prog 25 .i64 { name := "Data", type := 9, offset := 0, embedded := false, tag := "", pkgPath := "", byteOffset := 0 } { name := "N", type := 3, offset := 1, embedded := false, tag := "", pkgPath := "", byteOffset := 16 } where
  und := by kernel_rfl
  plain := by kernel_rfl
  guard := by kernel_rfl
  flds := by kernel_rfl
  nf := by decide
  ng := by decide
  sf := Try.underlying9
  sg := Try.underlying3
  pf := fun _ _ _ => by kernel_rfl
  pg := fun _ _ _ => by kernel_rfl
def cntC (f k : Nat) : Nat := ((List.range k).map fun j => f / 2 ^ (15 - j) % 2).sum
theorem cnt_eq (f : Nat) : ∀ k, cnt f k = cntC f k
  | 0 => by rw [cnt]; rfl
  | k + 1 => by rw [cnt, cnt_eq f k, cntC, cntC, List.range_succ, List.map_append, List.sum_append]; simp
def rC (v k i : Nat) : List UInt8 := ((List.range i).filter fun i => v.testBit (15 - i)).map fun i => UInt8.ofNat (16 * k + i)
theorem rL_eq (v k : Nat) : ∀ i, rL v k i = rC v k i
  | 0 => by rw [rL]; rfl
  | i + 1 => by
    rw [rL, rL_eq v k i, rC, rC, List.range_succ, List.filter_append, List.map_append]
    by_cases e : v.testBit (15 - i) = true
    · rw [if_pos e, List.filter_cons_of_pos (by exact e)]; rfl
    · rw [if_neg e, List.filter_cons_of_neg (by exact e)]; simp
def vC (s : ByteArray) (f : Nat) (a : Int) (k : Nat) : Int := (getV s (a + 16 * (cntC f k : Int)) 16).1
theorem vA_eq (s : ByteArray) (f : Nat) (a : Int) (k : Nat) : vA s f a k = vC s f a k := by rw [vA, vC, uN_cnt, cnt_eq]
def uC (s : ByteArray) (f : Nat) (a : Int) (k : Nat) : List UInt8 := (List.range k).flatMap fun j => if f.testBit (15 - j) = true then rC (vC s f a j).toNat j 16 else []
theorem uL_eq (s : ByteArray) (f : Nat) (a : Int) : ∀ k, uL s f a k = uC s f a k
  | 0 => by rw [uL]; rfl
  | k + 1 => by
    rw [uL, uL_eq s f a k, uC, uC, List.range_succ, List.flatMap_append, vA_eq, rL_eq]
    by_cases e : f.testBit (15 - k) = true
    · rw [if_pos e]; simp [e]
    · rw [if_neg e]; simp [e]
def eC (s : ByteArray) (f : Nat) (a : Int) (k : Nat) : Bool := (List.range k).any fun j => f.testBit (15 - j) && decide (vC s f a j = 0)
theorem uE_eq (s : ByteArray) (f : Nat) (a : Int) : ∀ k, uE s f a k = if eC s f a k = true then 3 else 0
  | 0 => by rw [uE]; rfl
  | k + 1 => by
    have e : eC s f a (k + 1) = (eC s f a k || (f.testBit (15 - k) && decide (vC s f a k = 0))) := by
      rw [eC, eC, List.range_succ, List.any_append]; simp
    rw [uE, uE_eq s f a k, e, vA_eq]
    by_cases e1 : eC s f a k = true
    · rw [if_pos e1, e1, if_neg (by decide)]; simp
    · have e1' : eC s f a k = false := by simpa using e1
      rw [if_neg e1, e1', if_pos rfl, Bool.false_or]
      simp
def unmapC (s : ByteArray) (a : Int) : ByteArray × Int × Int :=
  if (getV s a 16).2 = 0 then
    (if 8 * (s.size : Int) < a + 16 + 16 * ((onesV (getV s a 16).1.toNat : Nat) : Int) then (⟨#[]⟩, 0, 2) else if (getV s a 16).1 = 0 then (⟨#[]⟩, 0, 3)
      else if (if eC s (getV s a 16).1.toNat (a + 16) 16 = true then (3 : Int) else 0) = 0 then (⟨(uC s (getV s a 16).1.toNat (a + 16) 16).toArray⟩, a + 16 + 16 * (cntC (getV s a 16).1.toNat 16 : Int), 0) else (⟨#[]⟩, 0, 3))
  else (⟨#[]⟩, 0, (getV s a 16).2)
theorem unmap_eq (s : ByteArray) (a : Int) : unmapV s a = unmapC s a := by
  unfold unmapV unmapC
  rw [uE_eq, uL_eq, uN_cnt, cnt_eq]
theorem un_1 : unmapV ⟨#[2, 0, 96, 0]⟩ 0 = (⟨#[97, 98]⟩, 32, 0) := by rw [unmap_eq]; kernel_rfl
theorem un_2 : unmapV ⟨#[2, 0]⟩ 0 = (⟨#[]⟩, 0, 2) := by rw [unmap_eq]; kernel_rfl
theorem un_3 : unmapV ⟨#[0, 0]⟩ 0 = (⟨#[]⟩, 0, 3) := by rw [unmap_eq]; kernel_rfl
theorem un_4 : unmapV ⟨#[]⟩ (-1) = (⟨#[]⟩, 0, 1) := by rw [unmap_eq]; kernel_rfl
theorem unmap_t {s t : ByteArray} {a x e : Int} (h : unmapV s a = (t, x, e)) (hs : s.size ≤ 1000000000000) (ha : a ≤ 9223372036854775807) : FPure Try.prog 14 [Is (.string s), Is (.int .i64 a)] (Tup [Is (.string t), Is (.int .i64 x), Is (.int .i64 e)]) := by
  have h1 := unmap_s s a hs ha
  rw [h] at h1
  exact h1
theorem alph_t {s t : ByteArray} (h : alV s = t) (hs : s.size ≤ 1000000000000) : FPure Try.prog 9 [Is (.string s)] (Is (.string t)) := by
  subst h; exact alph_s s hs
theorem map_t {s t : ByteArray} {n : Int} (h : (pack (mapB s), (((mapB s).length : Nat) : Int)) = (t, n)) (hs : s.size ≤ 1000000000000) : FPure Try.prog 11 [Is (.string s)] (Agg [Is (.string t), Is (.int .i64 n)]) := by
  have h1 := map_s s hs
  rw [show pack (mapB s) = t from congrArg Prod.fst h, show (((mapB s).length : Nat) : Int) = n from congrArg Prod.snd h] at h1
  exact h1

set_option maxRecDepth 100000 in
set_option maxHeartbeats 1000000 in
theorem awake7_s  :
    FPure Try.prog 8 [] (Is (.bool true)) := by
  refine FPure.of Try.func8 Try.ntmps8 rfl (by kernel_rfl) rfl rfl rfl ?_
  refine W_seq ?_
  refine W_regionE (c := 1) (c' := 2) (by kernel_rfl) rfl ?_
  refine Runs_p rfl (Valid.assignk (A := Is _) rfl rfl) rfl rfl ?_ -- law.go:21 assign
  refine Runs_nil ?_
  refine thenQ_n ?_
  refine W_seq ?_
  refine W_regionE (c := 2) (c' := 10) (by kernel_rfl) rfl ?_
  refine Runs_p rfl (Valid.call rfl (unmap_t un_1 (by decide) (by decide)) ⟨argle rfl, argle rfl, trivial⟩) rfl rfl ?_ -- law.go:22 call
  refine Runs_p rfl (Valid.movek (A := Tup [Is _, Is _, Is _]) rfl rfl) rfl rfl ?_ -- law.go:22 move
  refine Runs_p rfl (Valid.extract _ rfl rfl rfl) rfl rfl ?_ -- law.go:22 extract
  refine Runs_p rfl (Valid.extract _ rfl rfl rfl) rfl rfl ?_ -- law.go:22 extract
  refine Runs_p rfl (Valid.extract _ rfl rfl rfl) rfl rfl ?_ -- law.go:22 extract
  refine Runs_p rfl (Valid.assignk (A := Is _) rfl rfl) rfl rfl ?_ -- law.go:22 assign
  refine Runs_p rfl (Valid.assignk (A := Is _) rfl rfl) rfl rfl ?_ -- law.go:22 assign
  refine Runs_p rfl (Valid.assignk (A := Is _) rfl rfl) rfl rfl ?_ -- law.go:22 assign
  refine Runs_nil ?_
  refine thenQ_n ?_
  refine W_seq ?_
  refine W_regionE (c := 10) (c' := 18) (by kernel_rfl) rfl ?_
  refine Runs_p rfl (Valid.call rfl (unmap_t un_2 (by decide) (by decide)) ⟨argle rfl, argle rfl, trivial⟩) rfl rfl ?_ -- law.go:23 call
  refine Runs_p rfl (Valid.movek (A := Tup [Is _, Is _, Is _]) rfl rfl) rfl rfl ?_ -- law.go:23 move
  refine Runs_p rfl (Valid.extract _ rfl rfl rfl) rfl rfl ?_ -- law.go:23 extract
  refine Runs_p rfl (Valid.extract _ rfl rfl rfl) rfl rfl ?_ -- law.go:23 extract
  refine Runs_p rfl (Valid.extract _ rfl rfl rfl) rfl rfl ?_ -- law.go:23 extract
  refine Runs_p rfl (Valid.assignk (A := Is _) rfl rfl) rfl rfl ?_ -- law.go:23 assign
  refine Runs_p rfl (Valid.assignk (A := Is _) rfl rfl) rfl rfl ?_ -- law.go:23 assign
  refine Runs_p rfl (Valid.assignk (A := Is _) rfl rfl) rfl rfl ?_ -- law.go:23 assign
  refine Runs_nil ?_
  refine thenQ_n ?_
  refine W_seq ?_
  refine W_regionE (c := 18) (c' := 26) (by kernel_rfl) rfl ?_
  refine Runs_p rfl (Valid.call rfl (unmap_t un_3 (by decide) (by decide)) ⟨argle rfl, argle rfl, trivial⟩) rfl rfl ?_ -- law.go:24 call
  refine Runs_p rfl (Valid.movek (A := Tup [Is _, Is _, Is _]) rfl rfl) rfl rfl ?_ -- law.go:24 move
  refine Runs_p rfl (Valid.extract _ rfl rfl rfl) rfl rfl ?_ -- law.go:24 extract
  refine Runs_p rfl (Valid.extract _ rfl rfl rfl) rfl rfl ?_ -- law.go:24 extract
  refine Runs_p rfl (Valid.extract _ rfl rfl rfl) rfl rfl ?_ -- law.go:24 extract
  refine Runs_p rfl (Valid.assignk (A := Is _) rfl rfl) rfl rfl ?_ -- law.go:24 assign
  refine Runs_p rfl (Valid.assignk (A := Is _) rfl rfl) rfl rfl ?_ -- law.go:24 assign
  refine Runs_p rfl (Valid.assignk (A := Is _) rfl rfl) rfl rfl ?_ -- law.go:24 assign
  refine Runs_nil ?_
  refine thenQ_n ?_
  refine W_seq ?_
  refine W_regionE (c := 26) (c' := 34) (by kernel_rfl) rfl ?_
  refine Runs_p rfl (Valid.call rfl (unmap_t un_4 (by decide) (by decide)) ⟨argle rfl, argle rfl, trivial⟩) rfl rfl ?_ -- law.go:25 call
  refine Runs_p rfl (Valid.movek (A := Tup [Is _, Is _, Is _]) rfl rfl) rfl rfl ?_ -- law.go:25 move
  refine Runs_p rfl (Valid.extract _ rfl rfl rfl) rfl rfl ?_ -- law.go:25 extract
  refine Runs_p rfl (Valid.extract _ rfl rfl rfl) rfl rfl ?_ -- law.go:25 extract
  refine Runs_p rfl (Valid.extract _ rfl rfl rfl) rfl rfl ?_ -- law.go:25 extract
  refine Runs_p rfl (Valid.assignk (A := Is _) rfl rfl) rfl rfl ?_ -- law.go:25 assign
  refine Runs_p rfl (Valid.assignk (A := Is _) rfl rfl) rfl rfl ?_ -- law.go:25 assign
  refine Runs_p rfl (Valid.assignk (A := Is _) rfl rfl) rfl rfl ?_ -- law.go:25 assign
  refine Runs_nil ?_
  refine thenQ_n ?_
  refine W_seq ?_
  refine W_regionE (c := 34) (c' := 66) (by kernel_rfl) rfl ?_
  refine Runs_p rfl (Valid.call rfl (alph_t knAl (by decide)) ⟨argle rfl, trivial⟩) rfl rfl ?_ -- law.go:26 call
  refine Runs_p rfl (Valid.seql rfl rfl rfl) rfl rfl ?_ -- law.go:26 binOp
  refine Runs_p rfl (Valid.movek (A := Is _) rfl rfl) rfl rfl ?_ -- law.go:26 move
  refine Runs_cnd rfl rfl (Grd.is rfl) [] (fun hg => trivial) (fun hg => Valid.call rfl (map_t knMap (by (try simp only [decide_eq_true_eq] at hg); decide)) ⟨argle rfl, trivial⟩) (by rfl) rfl ?_
  refine Runs_cnd rfl rfl (Grd.is rfl) [] (fun hg => trivial) (fun hg => Valid.struct [_, _] rfl rfl (fun _ => by kernel_rfl)) (by rfl) rfl ?_
  refine Runs_cnd rfl rfl (Grd.is rfl) [(36, _), (37, _)] (fun hg => ⟨cnd_at rfl (by first | exact hg | exact hg.1 | exact hg.1.1 | exact hg.1.1.1), cnd_at rfl (by first | exact hg | exact hg.1 | exact hg.1.1 | exact hg.1.1.1), trivial⟩) (fun hg => Valid.seqS tf25 rfl rfl rfl) (by rfl) rfl ?_
  refine Runs_p rfl (Valid.pickand rfl rfl rfl (fun h => by first | exact h | exact ⟨hg, h⟩) rfl) rfl rfl ?_ -- law.go:26 pick
  refine Runs_p rfl (Valid.movek (A := Is _) rfl rfl) rfl rfl ?_ -- law.go:26 move
  refine Runs_cnd rfl rfl (Grd.is rfl) [] (fun hg => trivial) (fun hg => Valid.movek (A := Is _) rfl rfl) (by rfl) rfl ?_
  refine Runs_cnd rfl rfl (Grd.is rfl) [(41, _)] (fun hg => ⟨cnd_at rfl (by first | exact hg | exact hg.1 | exact hg.1.1 | exact hg.1.1.1), trivial⟩) (fun hg => Valid.eql rfl rfl rfl) (by rfl) rfl ?_
  refine Runs_p rfl (Valid.pickand rfl rfl rfl (fun h => by first | exact h | exact ⟨hg, h⟩) rfl) rfl rfl ?_ -- law.go:26 pick
  refine Runs_p rfl (Valid.movek (A := Is _) rfl rfl) rfl rfl ?_ -- law.go:26 move
  refine Runs_cnd rfl rfl (Grd.is rfl) [] (fun hg => trivial) (fun hg => Valid.movek (A := Is _) rfl rfl) (by rfl) rfl ?_
  refine Runs_cnd rfl rfl (Grd.is rfl) [(45, _)] (fun hg => ⟨cnd_at rfl (by first | exact hg | exact hg.1 | exact hg.1.1 | exact hg.1.1.1), trivial⟩) (fun hg => Valid.seql rfl rfl rfl) (by rfl) rfl ?_
  refine Runs_p rfl (Valid.pickand rfl rfl rfl (fun h => by first | exact h | exact ⟨hg, h⟩) rfl) rfl rfl ?_ -- law.go:26 pick
  refine Runs_p rfl (Valid.movek (A := Is _) rfl rfl) rfl rfl ?_ -- law.go:26 move
  refine Runs_cnd rfl rfl (Grd.is rfl) [] (fun hg => trivial) (fun hg => Valid.movek (A := Is _) rfl rfl) (by rfl) rfl ?_
  refine Runs_cnd rfl rfl (Grd.is rfl) [(49, _)] (fun hg => ⟨cnd_at rfl (by first | exact hg | exact hg.1 | exact hg.1.1 | exact hg.1.1.1), trivial⟩) (fun hg => Valid.eql rfl rfl rfl) (by rfl) rfl ?_
  refine Runs_p rfl (Valid.pickand rfl rfl rfl (fun h => by first | exact h | exact ⟨hg, h⟩) rfl) rfl rfl ?_ -- law.go:26 pick
  refine Runs_p rfl (Valid.movek (A := Is _) rfl rfl) rfl rfl ?_ -- law.go:26 move
  refine Runs_cnd rfl rfl (Grd.is rfl) [] (fun hg => trivial) (fun hg => Valid.movek (A := Is _) rfl rfl) (by rfl) rfl ?_
  refine Runs_cnd rfl rfl (Grd.is rfl) [(53, _)] (fun hg => ⟨cnd_at rfl (by first | exact hg | exact hg.1 | exact hg.1.1 | exact hg.1.1.1), trivial⟩) (fun hg => Valid.eql rfl rfl rfl) (by rfl) rfl ?_
  refine Runs_p rfl (Valid.pickand rfl rfl rfl (fun h => by first | exact h | exact ⟨hg, h⟩) rfl) rfl rfl ?_ -- law.go:26 pick
  refine Runs_p rfl (Valid.movek (A := Is _) rfl rfl) rfl rfl ?_ -- law.go:26 move
  refine Runs_cnd rfl rfl (Grd.is rfl) [] (fun hg => trivial) (fun hg => Valid.movek (A := Is _) rfl rfl) (by rfl) rfl ?_
  refine Runs_cnd rfl rfl (Grd.is rfl) [(57, _)] (fun hg => ⟨cnd_at rfl (by first | exact hg | exact hg.1 | exact hg.1.1 | exact hg.1.1.1), trivial⟩) (fun hg => Valid.eql rfl rfl rfl) (by rfl) rfl ?_
  refine Runs_p rfl (Valid.pickand rfl rfl rfl (fun h => by first | exact h | exact ⟨hg, h⟩) rfl) rfl rfl ?_ -- law.go:26 pick
  refine Runs_p rfl (Valid.movek (A := Is _) rfl rfl) rfl rfl ?_ -- law.go:26 move
  refine Runs_cnd rfl rfl (Grd.is rfl) [] (fun hg => trivial) (fun hg => Valid.movek (A := Is _) rfl rfl) (by rfl) rfl ?_
  refine Runs_cnd rfl rfl (Grd.is rfl) [(61, _)] (fun hg => ⟨cnd_at rfl (by first | exact hg | exact hg.1 | exact hg.1.1 | exact hg.1.1.1), trivial⟩) (fun hg => Valid.eql rfl rfl rfl) (by rfl) rfl ?_
  refine Runs_p rfl (Valid.pickand rfl rfl rfl (fun h => by first | exact h | exact ⟨hg, h⟩) rfl) rfl rfl ?_ -- law.go:26 pick
  refine Runs_p rfl (Valid.assignk (A := Is _) rfl rfl) rfl rfl ?_ -- law.go:26 assign
  refine Runs_nil ?_
  refine thenQ_n ?_
  refine W_ret ?_
  refine finQ_r ?_
  refine ResOk.one rfl (RVal.is rfl rfl (rfl))
end Gj
end Go.Proofs.Ytlcephckjhiggaa
