/-
  WALKS of stage 7: the law that tells.
-/
import Derived.Test.YtlcephckjhiggaaRows
import Derived.Test.YtlcephckjhiggaaAbt
import Derived.Test.YtlcephckjhiggaaBb
import Derived.Test.YtlcephckjhiggaaCa
import Derived.Test.YtlcephckjhiggaaGa
import Derived.Test.YtlcephckjhiggaaGb
import Derived.Test.YtlcephckjhiggaaGc
import Derived.Test.YtlcephckjhiggaaGd
import Derived.Test.YtlcephckjhiggaaGe
import Derived.Test.YtlcephckjhiggaaGf
import Derived.Test.YtlcephckjhiggaaGg
import Derived.Test.YtlcephckjhiggaaGh
import Derived.Test.YtlcephckjhiggaaGi
import Derived.Test.YtlcephckjhiggaaGj
namespace Go.Proofs.Ytlcephckjhiggaa
open Go.RowKit
namespace Gw
open Ab Bm Bt Bb Ca Ga Gb Gc Gd Ge Gf Gg Gh Gi Gj
theorem ag3 (w : World) : (isAgg 3).run Try.prog w = .ok false w := by kernel_rfl
theorem ag5 (w : World) : (isAgg 5).run Try.prog w = .ok false w := by kernel_rfl
theorem ag9 (w : World) : (isAgg 9).run Try.prog w = .ok false w := by kernel_rfl
theorem sz3 (w : World) : (sizeOf 3).run Try.prog w = .ok 1 w := by kernel_rfl
theorem sz5 (w : World) : (sizeOf 5).run Try.prog w = .ok 1 w := by kernel_rfl
theorem sz9 (w : World) : (sizeOf 9).run Try.prog w = .ok 1 w := by kernel_rfl
theorem tf25 : TwoF Try.prog 25 .i64 { name := "Data", type := 9, offset := 0, embedded := false, tag := "", pkgPath := "", byteOffset := 0 } { name := "N", type := 3, offset := 1, embedded := false, tag := "", pkgPath := "", byteOffset := 16 } where
  und := by kernel_rfl
  plain := by kernel_rfl
  guard := by kernel_rfl
  flds := by kernel_rfl
  nf := by decide
  ng := by decide
  sf := Try.underlying9
  sg := Try.underlying3
  pf := fun _ _ _ => by kernel_rfl
  pg := fun _ _ _ => by kernel_rfl
theorem xor_u8 {P : Program} {t : TypeId} (x y : UInt8) (w : World) : (binOp .xor t (.int .u8 (x.toNat : Int)) (.int .u8 (y.toNat : Int))).run P w = .ok (.int .u8 ((x ^^^ y).toNat : Int)) w := by
  show (Op.intBits .xor .u8 (x.toNat : Int) (y.toNat : Int)).run P w = _
  have h1 : ∀ z : UInt8, BitVec.ofInt 8 (z.toNat : Int) = z.toBitVec := fun z => by
    rw [BitVec.ofInt_natCast]
    exact BitVec.ofNat_toNat _ _
  have h2 : IntKind.u8.wrap (((x.toBitVec ^^^ y.toBitVec).toNat : Nat) : Int) = ((x ^^^ y).toNat : Int) := by
    have : (x.toBitVec ^^^ y.toBitVec).toNat < 256 := (x.toBitVec ^^^ y.toBitVec).isLt
    rw [IntKind.wrap_u8]
    show _ = (((x.toBitVec ^^^ y.toBitVec).toNat : Nat) : Int)
    omega
  show (pure (Value.int .u8 (IntKind.u8.wrap (((BitVec.ofInt 8 (x.toNat : Int) ^^^ BitVec.ofInt 8 (y.toNat : Int)).toNat : Nat) : Int))) : Sem Value).run P w = _
  rw [h1, h1, h2]; rfl
/-- one bit of a byte, the highest one first -/
def mask (j : Nat) : UInt8 := UInt8.ofNat (2 ^ (7 - j))
theorem mask_at : ∀ j, j < 8 → Int.fdiv 128 (2 ^ min j 8) = ((mask j).toNat : Int) := by decide
theorem mask_of (k : Int) (_h : 0 ≤ k) : Int.fdiv 128 (2 ^ min (k % 8).toNat (IntKind.u8.bits)) = ((mask (k % 8).toNat).toNat : Int) := mask_at _ (by omega)
theorem xor_m {P : Program} {t : TypeId} (x : UInt8) (k : Int) (h : 0 ≤ k) (w : World) : (binOp .xor t (.int .u8 (x.toNat : Int)) (.int .u8 (Int.fdiv 128 (2 ^ min (k % 8).toNat (IntKind.u8.bits))))).run P w = .ok (.int .u8 ((x ^^^ mask (k % 8).toNat).toNat : Int)) w := by
  rw [mask_of k h]; exact xor_u8 _ _ w
/-- a text, one bit of which is turned -/
def turnS (s : ByteArray) (k : Int) : ByteArray := ⟨(s.data.toList.set (k / 8).toNat (s.data.toList.getD (k / 8).toNat 0 ^^^ mask (k % 8).toNat)).toArray⟩
theorem turnS_size (s : ByteArray) (k : Int) : (turnS s k).size = s.size := by
  show (s.data.toList.set _ _).length = s.size
  rw [List.length_set]; rfl

theorem fldB (us : List Value) (v : Value) (w : World) (h : us[0]? = some v) (hl : us.length = 2) : (Instr.field 25 (.agg us.toArray) 0).run Try.prog w = .ok v w := by
  match us, hl with
  | [a, b], _ =>
    have h : a = v := Option.some.inj h
    subst h
    have e : (Instr.field 25 (.agg [a, b].toArray) 0).run Try.prog w = .ok a w := by kernel_rfl
    exact e
def twoN (a b : Int) : List Int := [a, b]
def fourS (a b c d : ByteArray) : List ByteArray := [a, b, c, d]
theorem twoN_in {a b : Int} (ha : -9223372036854775808 ≤ a ∧ a ≤ 9223372036854775807) (hb : -9223372036854775808 ≤ b ∧ b ≤ 9223372036854775807) : In64 (twoN a b) := fun x hx => by
  rcases List.mem_cons.1 hx with rfl | hx
  · exact ha
  · rcases List.mem_cons.1 hx with rfl | hx
    · exact hb
    · cases hx
theorem fourS_size (a b c d : ByteArray) (ha : a.size ≤ 200) (hb : b.size ≤ 200) (hc : c.size ≤ 200) (hd : d.size ≤ 200) (k : Nat) (hk : k < 4) : ((fourS a b c d).getD k ByteArray.empty).size ≤ 200 := by
  match k, hk with
  | 0, _ => exact ha
  | 1, _ => exact hb
  | 2, _ => exact hc
  | 3, _ => exact hd
theorem map_bd (s : ByteArray) : 2 ≤ (pack (mapB s)).size ∧ (pack (mapB s)).size ≤ 34 := by
  have h1 := layB_le (hasV s) 16
  have h2 : (mapB s).length = 16 + (resB (hasV s) 16).length := by rw [map_eq, List.length_append, firB_len]
  have h3 : (mapB s).length = (layB (hasV s) 16).length := rfl
  rw [pack_size]; omega

set_option maxRecDepth 100000 in
set_option maxHeartbeats 1000000 in
theorem tells_law (s : ByteArray) (hs : s.size ≤ 9223372036854775807) (t : ByteArray) (ht : t.size ≤ 9223372036854775807) (a0 : Int) (wa0 : -9223372036854775808 ≤ a0 ∧ a0 ≤ 9223372036854775807) (w0 : Int) (ww0 : -9223372036854775808 ≤ w0 ∧ w0 ≤ 9223372036854775807) :
    FPure Try.prog 3 [Is (.string s), Is (.string t), Is (.int .i64 a0), Is (.int .i64 w0)] (Is (.bool true)) := by
  refine FPure.of Try.func3 Try.ntmps3 rfl (by kernel_rfl) rfl rfl rfl ?_
  refine W_seq ?_
  refine W_regionE (c := 1) (c' := 2) (by kernel_rfl) rfl ?_
  refine Runs_p rfl (Valid.assignk (A := Is _) rfl rfl) rfl rfl ?_ -- law.go:30 assign
  refine Runs_nil ?_
  refine thenQ_n ?_
  refine W_seq ?_
  refine W_regionE (c := 2) (c' := 4) (by kernel_rfl) rfl ?_
  refine Runs_p rfl (Valid.call rfl (awake7_s) trivial) rfl rfl ?_ -- law.go:31 call
  refine Runs_p rfl (Valid.assignk (A := Is _) rfl rfl) rfl rfl ?_ -- law.go:31 assign
  refine Runs_nil ?_
  refine thenQ_n ?_
  refine W_seq ?_
  refine W_regionE (c := 4) (c' := 10) (by kernel_rfl) rfl ?_
  refine Runs_p rfl (Valid.movek (A := Is _) rfl rfl) rfl rfl ?_ -- law.go:32 move
  refine Runs_p rfl (Valid.movek (A := Is _) rfl rfl) rfl rfl ?_ -- law.go:32 move
  refine Runs_p rfl (Valid.slen rfl Try.underlying9 rfl) rfl rfl ?_ -- law.go:32 call
  refine Runs_p rfl (Valid.min rfl rfl rfl) rfl rfl ?_ -- law.go:32 call
  refine Runs_p rfl (Valid.ssliceto rfl Try.underlying9 rfl rfl (by first | omega | (simp only [Int.toNat_natCast, toNat_add, toNat_add1, List.length_append, List.length_cons, List.length_nil, List.length_replicate]; omega))) rfl rfl ?_ -- law.go:32 slice
  refine Runs_p rfl (Valid.assignk (A := Is _) rfl rfl) rfl rfl ?_ -- law.go:32 assign
  refine Runs_nil ?_
  refine thenQ_n ?_
  refine W_seq ?_
  have hxs : (s.extract 0 (min (s.size : Int) 100).toNat).size ≤ 100 := by rw [ByteArray.size_extract]; omega
  generalize (s.extract 0 (min (s.size : Int) 100).toNat) = x at *
  refine W_regionE (c := 10) (c' := 16) (by kernel_rfl) rfl ?_
  refine Runs_p rfl (Valid.movek (A := Is _) rfl rfl) rfl rfl ?_ -- law.go:33 move
  refine Runs_p rfl (Valid.movek (A := Is _) rfl rfl) rfl rfl ?_ -- law.go:33 move
  refine Runs_p rfl (Valid.slen rfl Try.underlying9 rfl) rfl rfl ?_ -- law.go:33 call
  refine Runs_p rfl (Valid.min rfl rfl rfl) rfl rfl ?_ -- law.go:33 call
  refine Runs_p rfl (Valid.ssliceto rfl Try.underlying9 rfl rfl (by first | omega | (simp only [Int.toNat_natCast, toNat_add, toNat_add1, List.length_append, List.length_cons, List.length_nil, List.length_replicate]; omega))) rfl rfl ?_ -- law.go:33 slice
  refine Runs_p rfl (Valid.assignk (A := Is _) rfl rfl) rfl rfl ?_ -- law.go:33 assign
  refine Runs_nil ?_
  refine thenQ_n ?_
  refine W_seq ?_
  refine W_seq ?_
  have hys : (t.extract 0 (min (t.size : Int) 60).toNat).size ≤ 60 := by rw [ByteArray.size_extract]; omega
  generalize (t.extract 0 (min (t.size : Int) 60).toNat) = y at *
  refine W_regionE (c := 16) (c' := 28) (by kernel_rfl) rfl ?_
  refine Runs_p rfl (Valid.movek (A := Is _) rfl rfl) rfl rfl ?_ -- law.go:34 move
  refine Runs_p rfl (Valid.call rfl (alph_s _ (by omega)) ⟨argle rfl, trivial⟩) rfl rfl ?_ -- law.go:34 call
  refine Runs_p rfl (Valid.movek (A := Is _) rfl rfl) rfl rfl ?_ -- law.go:34 move
  refine Runs_p rfl (Valid.call rfl (ralph_s _ (by omega)) ⟨argle rfl, trivial⟩) rfl rfl ?_ -- law.go:34 call
  refine Runs_p rfl (Valid.sneq rfl rfl rfl) rfl rfl ?_ -- law.go:34 binOp
  refine Runs_p rfl (Valid.movek (A := Is _) rfl rfl) rfl rfl ?_ -- law.go:34 move
  refine Runs_cnd rfl rfl (Grd.is rfl) [] (fun hg => trivial) (fun hg => Valid.movek (A := Is _) rfl rfl) (by rfl) rfl ?_
  refine Runs_cnd rfl rfl (Grd.is rfl) [(41, _)] (fun hg => ⟨cnd_at rfl (by first | exact hg | exact hg.1 | exact hg.1.1 | exact hg.1.1.1), trivial⟩) (fun hg => Valid.call rfl (map_s _ (by (try simp only [decide_eq_false_iff_not, not_true_eq_false, not_false_eq_true, ne_eq] at hg); omega)) ⟨argle rfl, trivial⟩) (by rfl) rfl ?_
  refine Runs_cnd rfl rfl (Grd.is rfl) [] (fun hg => trivial) (fun hg => Valid.movek (A := Is _) rfl rfl) (by rfl) rfl ?_
  refine Runs_cnd rfl rfl (Grd.is rfl) [(43, _)] (fun hg => ⟨cnd_at rfl (by first | exact hg | exact hg.1 | exact hg.1.1 | exact hg.1.1.1), trivial⟩) (fun hg => Valid.call rfl (rmap_s _ (by (try simp only [decide_eq_false_iff_not, not_true_eq_false, not_false_eq_true, ne_eq] at hg); omega)) ⟨argle rfl, trivial⟩) (by rfl) rfl ?_
  refine Runs_cnd rfl rfl (Grd.is rfl) [(42, _), (44, _)] (fun hg => ⟨cnd_at rfl (by first | exact hg | exact hg.1 | exact hg.1.1 | exact hg.1.1.1), cnd_at rfl (by first | exact hg | exact hg.1 | exact hg.1.1 | exact hg.1.1.1), trivial⟩) (fun hg => Valid.sneS tf25 rfl rfl rfl) (by rfl) rfl ?_
  refine Runs_p rfl (Valid.pickor rfl rfl rfl rfl (fun h => by first | exact h | exact ⟨hg, h⟩)) rfl rfl ?_ -- law.go:34 pick
  refine Runs_nil ?_
  refine thenQ_n ?_
  refine W_cond _ rfl (fun hb1 => ?_) (fun hb1 => ?_)
  · try simp only [decide_eq_true_eq, decide_eq_false_iff_not, Bool.or_eq_true, Bool.not_eq_true', not_true_eq_false, ne_eq] at hb1
    all_goals (
      exfalso
      simp at hb1
      
      done)
  · try simp only [decide_eq_true_eq, decide_eq_false_iff_not, Bool.or_eq_false_iff, Bool.not_eq_false', not_true_eq_false, not_false_eq_true, ne_eq] at hb1
    all_goals (
      refine W_skip ?_
      refine thenQ_n ?_
      refine W_seq ?_
      have hmb := map_bd x
      refine W_regionE (c := 28) (c' := 35) (by kernel_rfl) rfl ?_
      refine Runs_p rfl (Valid.movek (A := Is _) rfl rfl) rfl rfl ?_ -- law.go:37 move
      refine Runs_p rfl (Valid.call rfl (rmap_s _ (by omega)) ⟨argle rfl, trivial⟩) rfl rfl ?_ -- law.go:37 call
      refine Runs_p rfl (Valid.field _ rfl rfl rfl fldB) rfl rfl ?_ -- law.go:37 field
      refine Runs_p rfl (Valid.movek (A := Is _) rfl rfl) rfl rfl ?_ -- law.go:37 move
      refine Runs_p rfl (Valid.cat rfl rfl rfl (by first | omega | (simp only [maxLen]; omega))) rfl rfl ?_ -- law.go:37 binOp
      refine Runs_w rfl (Valid.tobuf rfl Try.underlying27 Try.underlying5 Try.underlying9 rfl (by rw [ByteArray.size_append]; omega)) rfl rfl ?_ -- law.go:37 convert
      refine Runs_p rfl (Valid.assignk (A := Buf 264 _) rfl rfl) rfl rfl ?_ -- law.go:37 assign
      refine Runs_nil ?_
      refine thenQ_n ?_
      refine W_seq ?_
      have hds : (pack (mapB x) ++ y).size ≤ 100 := by rw [ByteArray.size_append]; omega
      have hdp : 0 < (pack (mapB x) ++ y).size := by rw [ByteArray.size_append]; omega
      generalize (pack (mapB x) ++ y) = d at *
      refine W_regionE (c := 35) (c' := 41) (by kernel_rfl) rfl ?_
      refine Runs_p rfl (Valid.movek (A := Is _) rfl rfl) rfl rfl ?_ -- law.go:38 move
      refine Runs_p rfl (Valid.movek (A := Buf 264 _) rfl rfl) rfl rfl ?_ -- law.go:38 move
      refine Runs_p rfl (Valid.lenB rfl Try.underlying27 rfl) rfl rfl ?_ -- law.go:38 call
      refine Runs_p rfl (Valid.mul rfl rfl rfl (room64 (by first | omega | (simp only [Int.toNat_natCast, toNat_add, toNat_add1, List.length_append, List.length_cons, List.length_nil, List.length_replicate]; omega)) (by first | omega | (simp only [Int.toNat_natCast, toNat_add, toNat_add1, List.length_append, List.length_cons, List.length_nil, List.length_replicate]; omega)))) rfl rfl ?_ -- law.go:38 binOp
      refine Runs_p rfl (Valid.call rfl (pick7_s _ _ ww0.1 ww0.2 (by omega) (by omega)) ⟨argle rfl, argle rfl, trivial⟩) rfl rfl ?_ -- law.go:38 call
      refine Runs_p rfl (Valid.assignk (A := Is _) rfl rfl) rfl rfl ?_ -- law.go:38 assign
      refine Runs_nil ?_
      refine thenQ_n ?_
      refine W_seq ?_
      have hkr := pickV_range w0 (8 * (d.size : Int)) (by omega)
      generalize pickV w0 (8 * (d.size : Int)) = kk at *
      have hdl : d.data.toList.length = d.size := rfl
      have htz := turnS_size d kk
      refine W_drawE (c := 41) (c' := 55) (by kernel_rfl) rfl ?_
      refine Runs_p rfl (Valid.movek (A := Buf 264 _) rfl rfl) rfl rfl ?_ -- law.go:39 move
      refine Runs_p rfl (Valid.movek (A := Is _) rfl rfl) rfl rfl ?_ -- law.go:39 move
      refine Runs_p rfl (Valid.quo rfl rfl rfl (by first | omega | (simp only [Int.toNat_natCast, toNat_add, toNat_add1, List.length_append, List.length_cons, List.length_nil, List.length_replicate]; omega)) (by first | omega | (simp only [Int.toNat_natCast, toNat_add, toNat_add1, List.length_append, List.length_cons, List.length_nil, List.length_replicate]; omega)) (room64 (by first | omega | (simp only [Int.toNat_natCast, toNat_add, toNat_add1, List.length_append, List.length_cons, List.length_nil, List.length_replicate]; omega)) (by first | omega | (simp only [Int.toNat_natCast, toNat_add, toNat_add1, List.length_append, List.length_cons, List.length_nil, List.length_replicate]; omega)))) rfl rfl ?_ -- law.go:39 binOp
      refine Runs_p rfl (Valid.movek (A := Buf 264 _) rfl rfl) rfl rfl ?_ -- law.go:39 move
      refine Runs_p rfl (Valid.movek (A := Is _) rfl rfl) rfl rfl ?_ -- law.go:39 move
      refine Runs_p rfl (Valid.quo rfl rfl rfl (by first | omega | (simp only [Int.toNat_natCast, toNat_add, toNat_add1, List.length_append, List.length_cons, List.length_nil, List.length_replicate]; omega)) (by first | omega | (simp only [Int.toNat_natCast, toNat_add, toNat_add1, List.length_append, List.length_cons, List.length_nil, List.length_replicate]; omega)) (room64 (by first | omega | (simp only [Int.toNat_natCast, toNat_add, toNat_add1, List.length_append, List.length_cons, List.length_nil, List.length_replicate]; omega)) (by first | omega | (simp only [Int.toNat_natCast, toNat_add, toNat_add1, List.length_append, List.length_cons, List.length_nil, List.length_replicate]; omega)))) rfl rfl ?_ -- law.go:39 binOp
      refine Runs_p rfl (Valid.idxB rfl Try.underlying27 sz5 rfl rfl (by first | omega | (simp only [Int.toNat_natCast, toNat_add, toNat_add1, List.length_append, List.length_cons, List.length_nil, List.length_replicate]; omega))) rfl rfl ?_ -- law.go:39 indexAddr
      refine Runs_p rfl (Valid.loadB 0 rfl ag5 rfl rfl (by simp; omega)) rfl rfl ?_ -- law.go:39 load
      refine Runs_p rfl (Valid.movek (A := Is _) rfl rfl) rfl rfl ?_ -- law.go:39 move
      refine Runs_p rfl (Valid.rem rfl rfl rfl (by first | omega | (simp only [Int.toNat_natCast, toNat_add, toNat_add1, List.length_append, List.length_cons, List.length_nil, List.length_replicate]; omega)) (by first | omega | (simp only [Int.toNat_natCast, toNat_add, toNat_add1, List.length_append, List.length_cons, List.length_nil, List.length_replicate]; omega))) rfl rfl ?_ -- law.go:39 binOp
      refine Runs_p rfl (Valid.shrw rfl rfl rfl (by first | omega | (simp only [Int.toNat_natCast, toNat_add, toNat_add1, List.length_append, List.length_cons, List.length_nil, List.length_replicate]; omega))) rfl rfl ?_ -- law.go:39 binOp
      refine Runs_p rfl (Valid.bits rfl rfl rfl (fun w => xor_m _ kk (by omega) w)) rfl rfl ?_ -- law.go:39 binOp
      refine Runs_p rfl (Valid.idxB rfl Try.underlying27 sz5 rfl rfl (by first | omega | (simp only [Int.toNat_natCast, toNat_add, toNat_add1, List.length_append, List.length_cons, List.length_nil, List.length_replicate]; omega))) rfl rfl ?_ -- law.go:39 indexAddr
      refine Runs_op rfl (Valid.storeB _ rfl sz5 rfl rfl (by simp; omega) rfl (One.is rfl rfl rfl)) rfl ?_ -- law.go:39 store
      refine Runs_nil ?_
      refine ⟨_, _, rfl, rfl, by kernel_rfl, ?_⟩
      refine thenQ_n ?_
      refine W_seq ?_
      refine W_seq ?_
      refine W_drawE (c := 55) (c' := 67) (by kernel_rfl) rfl ?_
      refine Runs_p rfl (Valid.movek (A := Is _) rfl rfl) rfl rfl ?_ -- law.go:40 move
      refine Runs_p rfl (Valid.movek (A := Is _) rfl rfl) rfl rfl ?_ -- law.go:40 move
      refine Runs_p rfl (Valid.call rfl (rmap_s _ (by omega)) ⟨argle rfl, trivial⟩) rfl rfl ?_ -- law.go:40 call
      refine Runs_p rfl (Valid.field _ rfl rfl rfl fldB) rfl rfl ?_ -- law.go:40 field
      refine Runs_p rfl (Valid.movek (A := Buf 264 _) rfl rfl) rfl rfl ?_ -- law.go:40 move
      refine Runs_p rfl (Valid.stringB rfl Try.underlying27 Try.underlying5 Try.underlying9 rfl rfl) rfl rfl ?_ -- law.go:40 convert
      refine Runs_p rfl (Valid.movek (A := Buf 264 _) rfl rfl) rfl rfl ?_ -- law.go:40 move
      refine Runs_p rfl (Valid.stringB rfl Try.underlying27 Try.underlying5 Try.underlying9 rfl rfl) rfl rfl ?_ -- law.go:40 convert
      refine Runs_p rfl (Valid.cat rfl rfl rfl (by first | omega | show 1 + (turnS d kk).size ≤ _; omega | (show 1 + (turnS d kk).size ≤ _; simp only [maxLen]; omega))) rfl rfl ?_ -- law.go:40 binOp
      refine Runs_p rfl (Valid.lit (el := 9) ((fourS y (pack (mapB x)) (turnS d kk) ((⟨#[0]⟩ : ByteArray) ++ turnS d kk)).map Value.string) rfl rfl (fun _ => by kernel_rfl) rfl (by decide)) rfl rfl ?_ -- law.go:40 buildSlice
      refine Runs_p rfl (Valid.len rfl Try.underlying29 (Reads.sl rfl)) rfl rfl ?_ -- law.go:40 call
      refine Runs_p rfl (Valid.movek (A := Is _) rfl rfl) rfl rfl ?_ -- law.go:40 move
      refine Runs_nil ?_
      refine ⟨_, _, rfl, rfl, by kernel_rfl, ?_⟩
      refine thenQ_n ?_
      refine W_block ?_
      refine W_loopx (G := Nat) (fun (q : Nat) => q ≤ 4) [(2, Is _), (9, Is _), (80, Sl 1 4 ((fourS y (pack (mapB x)) (turnS d kk) ((⟨#[0]⟩ : ByteArray) ++ turnS d kk)).map Value.string)), (81, Is _)] (fun (q : Nat) => [(82, Is (.int .i64 (q : Int)))]) [] (fun (q : Nat) => []) 67 (fun (q : Nat) => 4 - q) (0) [] (by first | trivial | omega | (simp; omega)) ⟨⟨(leq_is rfl rfl (by first | rfl | (simp; done) | omega | (simp [toNat_add, toNat_add1, Nat.add_assoc]; done) | (simp [toNat_add, toNat_add1]; omega))), trivial⟩, ⟨(leq_is rfl rfl rfl), (leq_is rfl rfl rfl), (leq_sl (Reads.sl rfl) rfl rfl rfl), (leq_is rfl rfl rfl), trivial⟩, trivial, trivial, rfl, ⟨supg rfl, trivial⟩, ⟨supg rfl, supg rfl, supg rfl, supg rfl, trivial⟩, trivial, trivial, rfl, rfl⟩ ?_
      intro q hI1
      refine W_seq ?_
      refine W_regionE (c := 67) (c' := 68) (by kernel_rfl) rfl ?_
      refine Runs_p rfl (Valid.lss rfl rfl rfl) rfl rfl ?_ -- law.go:40 binOp
      refine Runs_nil ?_
      refine thenQ_n ?_
      refine W_seq ?_
      refine W_cond _ rfl (fun hb2 => ?_) (fun hb2 => ?_)
      · try simp only [decide_eq_true_eq] at hb2
        all_goals (
          refine W_skip ?_
          refine thenQ_n ?_
          refine W_seq ?_
          refine W_block ?_
          refine W_seq ?_
          refine W_regionE (c := 68) (c' := 71) (by kernel_rfl) rfl ?_
          refine Runs_p rfl (Valid.eltaddr1 ByteArray.empty rfl Try.underlying29 sz9 (Reads.sl rfl) rfl (by first | omega | (simp only [Int.toNat_natCast, toNat_add, toNat_add1, List.length_append, List.length_cons, List.length_nil, List.length_replicate]; omega)) (by first | rfl | simp)) rfl rfl ?_ -- law.go:40 indexAddr
          refine Runs_p rfl (Valid.loadelt rfl ag9 rfl) rfl rfl ?_ -- law.go:40 load
          refine Runs_p rfl (Valid.assignk (A := Is _) rfl rfl) rfl rfl ?_ -- law.go:40 assign
          refine Runs_nil ?_
          refine thenQ_n ?_
          refine W_seq ?_
          have hx := fourS_size y (pack (mapB x)) (turnS d kk) ((⟨#[0]⟩ : ByteArray) ++ turnS d kk) (by omega) (by omega) (by omega) (by rw [ByteArray.size_append]; show 1 + (turnS d kk).size ≤ _; omega) (q : Int).toNat (by omega)
          generalize (fourS y (pack (mapB x)) (turnS d kk) ((⟨#[0]⟩ : ByteArray) ++ turnS d kk)).getD (q : Int).toNat ByteArray.empty = u at *
          refine W_regionE (c := 71) (c' := 77) (by kernel_rfl) rfl ?_
          refine Runs_p rfl (Valid.movek (A := Is _) rfl rfl) rfl rfl ?_ -- law.go:41 move
          refine Runs_p rfl (Valid.movek (A := Is _) rfl rfl) rfl rfl ?_ -- law.go:41 move
          refine Runs_p rfl (Valid.call rfl (pick7_s _ _ wa0.1 wa0.2 (by decide) (by decide)) ⟨argle rfl, argle rfl, trivial⟩) rfl rfl ?_ -- law.go:41 call
          refine Runs_p rfl (Valid.lit (el := 3) ((twoN a0 (pickV a0 40)).map (Value.int .i64)) rfl rfl (fun _ => by kernel_rfl) rfl (by decide)) rfl rfl ?_ -- law.go:41 buildSlice
          refine Runs_p rfl (Valid.len rfl Try.underlying30 (Reads.sl rfl)) rfl rfl ?_ -- law.go:41 call
          refine Runs_p rfl (Valid.movek (A := Is _) rfl rfl) rfl rfl ?_ -- law.go:41 move
          refine Runs_nil ?_
          refine thenQ_n ?_
          refine W_block ?_
          refine W_loopx (G := Nat) (fun (i : Nat) => i ≤ 2) [(2, Is _), (9, Is _), (15, Is _), (80, Sl 1 _ _), (81, Is _), (82, Is _), (89, Sl 1 2 ((twoN a0 (pickV a0 40)).map (Value.int .i64))), (90, Is _)] (fun (i : Nat) => [(91, Is (.int .i64 (i : Int)))]) [] (fun (i : Nat) => []) 77 (fun (i : Nat) => 2 - i) (0) [] (by first | trivial | omega | (simp; omega)) ⟨⟨(leq_is rfl rfl (by first | rfl | (simp; done) | omega | (simp [toNat_add, toNat_add1, Nat.add_assoc]; done) | (simp [toNat_add, toNat_add1]; omega))), trivial⟩, ⟨(leq_is rfl rfl rfl), (leq_is rfl rfl rfl), (leq_is rfl rfl rfl), (leq_sl (Reads.sl rfl) rfl rfl rfl), (leq_is rfl rfl rfl), (leq_is rfl rfl rfl), (leq_sl (Reads.sl rfl) rfl rfl rfl), (leq_is rfl rfl rfl), trivial⟩, trivial, trivial, rfl, ⟨supg rfl, trivial⟩, ⟨supg rfl, supg rfl, supg rfl, supg rfl, supg rfl, supg rfl, supg rfl, supg rfl, trivial⟩, trivial, trivial, rfl, rfl⟩ ?_
          intro i hI2
          refine W_seq ?_
          refine W_regionE (c := 77) (c' := 78) (by kernel_rfl) rfl ?_
          refine Runs_p rfl (Valid.lss rfl rfl rfl) rfl rfl ?_ -- law.go:41 binOp
          refine Runs_nil ?_
          refine thenQ_n ?_
          refine W_seq ?_
          refine W_cond _ rfl (fun hb3 => ?_) (fun hb3 => ?_)
          · try simp only [decide_eq_true_eq] at hb3
            all_goals (
              refine W_skip ?_
              refine thenQ_n ?_
              refine W_seq ?_
              refine W_block ?_
              refine W_seq ?_
              refine W_regionE (c := 78) (c' := 81) (by kernel_rfl) rfl ?_
              refine Runs_p rfl (Valid.eltaddr1 0 rfl Try.underlying30 sz3 (Reads.sl rfl) rfl (by first | omega | (simp only [Int.toNat_natCast, toNat_add, toNat_add1, List.length_append, List.length_cons, List.length_nil, List.length_replicate]; omega)) (by first | rfl | simp)) rfl rfl ?_ -- law.go:41 indexAddr
              refine Runs_p rfl (Valid.loadelt rfl ag3 rfl) rfl rfl ?_ -- law.go:41 load
              refine Runs_p rfl (Valid.assignk (A := Is _) rfl rfl) rfl rfl ?_ -- law.go:41 assign
              refine Runs_nil ?_
              refine thenQ_n ?_
              refine W_seq ?_
              have hp40 := pickV_range a0 40 (by decide)
              have haw := (twoN_in (b := pickV a0 40) wa0 (by omega)).at_ (i : Int).toNat
              generalize (twoN a0 (pickV a0 40)).getD (i : Int).toNat 0 = a at *
              refine W_regionE (c := 81) (c' := 91) (by kernel_rfl) rfl ?_
              refine Runs_p rfl (Valid.movek (A := Is _) rfl rfl) rfl rfl ?_ -- law.go:42 move
              refine Runs_p rfl (Valid.movek (A := Is _) rfl rfl) rfl rfl ?_ -- law.go:42 move
              refine Runs_p rfl (Valid.call rfl (unmap_s _ _ (by omega) (by omega)) ⟨argle rfl, argle rfl, trivial⟩) rfl rfl ?_ -- law.go:42 call
              refine Runs_p rfl (Valid.movek (A := Tup [Is _, Is _, Is _]) rfl rfl) rfl rfl ?_ -- law.go:42 move
              refine Runs_p rfl (Valid.extract _ rfl rfl rfl) rfl rfl ?_ -- law.go:42 extract
              refine Runs_p rfl (Valid.extract _ rfl rfl rfl) rfl rfl ?_ -- law.go:42 extract
              refine Runs_p rfl (Valid.extract _ rfl rfl rfl) rfl rfl ?_ -- law.go:42 extract
              refine Runs_p rfl (Valid.assignk (A := Is _) rfl rfl) rfl rfl ?_ -- law.go:42 assign
              refine Runs_p rfl (Valid.assignk (A := Is _) rfl rfl) rfl rfl ?_ -- law.go:42 assign
              refine Runs_p rfl (Valid.assignk (A := Is _) rfl rfl) rfl rfl ?_ -- law.go:42 assign
              refine Runs_nil ?_
              refine thenQ_n ?_
              refine W_seq ?_
              refine W_regionE (c := 91) (c' := 101) (by kernel_rfl) rfl ?_
              refine Runs_p rfl (Valid.movek (A := Is _) rfl rfl) rfl rfl ?_ -- law.go:43 move
              refine Runs_p rfl (Valid.movek (A := Is _) rfl rfl) rfl rfl ?_ -- law.go:43 move
              refine Runs_p rfl (Valid.call rfl (runmap_s _ _ (by omega) (by omega)) ⟨argle rfl, argle rfl, trivial⟩) rfl rfl ?_ -- law.go:43 call
              refine Runs_p rfl (Valid.movek (A := Tup [Is _, Is _, Is _]) rfl rfl) rfl rfl ?_ -- law.go:43 move
              refine Runs_p rfl (Valid.extract _ rfl rfl rfl) rfl rfl ?_ -- law.go:43 extract
              refine Runs_p rfl (Valid.extract _ rfl rfl rfl) rfl rfl ?_ -- law.go:43 extract
              refine Runs_p rfl (Valid.extract _ rfl rfl rfl) rfl rfl ?_ -- law.go:43 extract
              refine Runs_p rfl (Valid.assignk (A := Is _) rfl rfl) rfl rfl ?_ -- law.go:43 assign
              refine Runs_p rfl (Valid.assignk (A := Is _) rfl rfl) rfl rfl ?_ -- law.go:43 assign
              refine Runs_p rfl (Valid.assignk (A := Is _) rfl rfl) rfl rfl ?_ -- law.go:43 assign
              refine Runs_nil ?_
              refine thenQ_n ?_
              refine W_seq ?_
              refine W_regionE (c := 101) (c' := 114) (by kernel_rfl) rfl ?_
              refine Runs_p rfl (Valid.movek (A := Is _) rfl rfl) rfl rfl ?_ -- law.go:44 move
              refine Runs_p rfl (Valid.movek (A := Is _) rfl rfl) rfl rfl ?_ -- law.go:44 move
              refine Runs_p rfl (Valid.sneq rfl rfl rfl) rfl rfl ?_ -- law.go:44 binOp
              refine Runs_p rfl (Valid.movek (A := Is _) rfl rfl) rfl rfl ?_ -- law.go:44 move
              refine Runs_cnd rfl rfl (Grd.is rfl) [] (fun hg => trivial) (fun hg => Valid.movek (A := Is _) rfl rfl) (by rfl) rfl ?_
              refine Runs_cnd rfl rfl (Grd.is rfl) [] (fun hg => trivial) (fun hg => Valid.movek (A := Is _) rfl rfl) (by rfl) rfl ?_
              refine Runs_cnd rfl rfl (Grd.is rfl) [(113, _), (114, _)] (fun hg => ⟨cnd_at rfl (by first | exact hg | exact hg.1 | exact hg.1.1 | exact hg.1.1.1), cnd_at rfl (by first | exact hg | exact hg.1 | exact hg.1.1 | exact hg.1.1.1), trivial⟩) (fun hg => Valid.neq rfl rfl rfl) (by rfl) rfl ?_
              refine Runs_p rfl (Valid.pickor rfl rfl rfl rfl (fun h => by first | exact h | exact ⟨hg, h⟩)) rfl rfl ?_ -- law.go:44 pick
              refine Runs_p rfl (Valid.movek (A := Is _) rfl rfl) rfl rfl ?_ -- law.go:44 move
              refine Runs_cnd rfl rfl (Grd.is rfl) [] (fun hg => trivial) (fun hg => Valid.movek (A := Is _) rfl rfl) (by rfl) rfl ?_
              refine Runs_cnd rfl rfl (Grd.is rfl) [] (fun hg => trivial) (fun hg => Valid.movek (A := Is _) rfl rfl) (by rfl) rfl ?_
              refine Runs_cnd rfl rfl (Grd.is rfl) [(118, _), (119, _)] (fun hg => ⟨cnd_at rfl (by first | exact hg | exact hg.1 | exact hg.1.1 | exact hg.1.1.1), cnd_at rfl (by first | exact hg | exact hg.1 | exact hg.1.1 | exact hg.1.1.1), trivial⟩) (fun hg => Valid.neq rfl rfl rfl) (by rfl) rfl ?_
              refine Runs_p rfl (Valid.pickor rfl rfl rfl rfl (fun h => by first | exact h | exact ⟨hg, h⟩)) rfl rfl ?_ -- law.go:44 pick
              refine Runs_nil ?_
              refine thenQ_n ?_
              refine W_cond _ rfl (fun hb4 => ?_) (fun hb4 => ?_)
              · try simp only [decide_eq_true_eq, Bool.or_eq_true, not_true_eq_false, ne_eq] at hb4
                all_goals (
                  exfalso
                  simp at hb4
                  
                  done)
              · try simp only [decide_eq_false_iff_not, Bool.or_eq_false_iff, not_true_eq_false, not_false_eq_true, ne_eq] at hb4
                all_goals (
                  refine W_skip ?_
                  refine blockQ_n ?_
                  refine thenQ_n ?_
                  refine W_regionE (c := 114) (c' := 116) (by kernel_rfl) rfl ?_
                  refine Runs_p rfl (Valid.add rfl rfl rfl (room64 (by first | omega | (simp only [Int.toNat_natCast, toNat_add, toNat_add1, List.length_append, List.length_cons, List.length_nil, List.length_replicate]; omega)) (by first | omega | (simp only [Int.toNat_natCast, toNat_add, toNat_add1, List.length_append, List.length_cons, List.length_nil, List.length_replicate]; omega)))) rfl rfl ?_ -- law.go:41 binOp
                  refine Runs_p rfl (Valid.movek (A := Is _) rfl rfl) rfl rfl ?_ -- law.go:41 move
                  refine Runs_nil ?_
                  refine LoopQ.next (i + 1) [] (by omega) (by omega) ⟨⟨(leq_is rfl rfl (by first | rfl | (simp; done) | omega | (simp [toNat_add, toNat_add1, Nat.add_assoc]; done) | (simp [toNat_add, toNat_add1]; omega))), trivial⟩, ⟨(leq_is rfl rfl rfl), (leq_is rfl rfl rfl), (leq_is rfl rfl rfl), (leq_sl (Reads.sl rfl) rfl rfl rfl), (leq_is rfl rfl rfl), (leq_is rfl rfl rfl), (leq_sl (Reads.sl rfl) rfl rfl rfl), (leq_is rfl rfl rfl), trivial⟩, trivial, trivial, rfl, ⟨supg rfl, trivial⟩, ⟨supg rfl, supg rfl, supg rfl, supg rfl, supg rfl, supg rfl, supg rfl, supg rfl, trivial⟩, trivial, trivial, rfl, rfl⟩
                  done)
              done)
          · try simp only [decide_eq_false_iff_not] at hb3
            all_goals (
              refine W_exit ?_
              refine thenQ_e ?_
              refine loopQ_e ?_
              refine blockQ_x ?_
              refine blockQ_n ?_
              refine thenQ_n ?_
              refine W_regionE (c := 78) (c' := 80) (by kernel_rfl) rfl ?_
              refine Runs_p rfl (Valid.add rfl rfl rfl (room64 (by first | omega | show 1 + (turnS d kk).size ≤ _; omega | (show 1 + (turnS d kk).size ≤ _; simp only [maxLen]; omega)) (by first | omega | show 1 + (turnS d kk).size ≤ _; omega | (show 1 + (turnS d kk).size ≤ _; simp only [maxLen]; omega)))) rfl rfl ?_ -- law.go:40 binOp
              refine Runs_p rfl (Valid.movek (A := Is _) rfl rfl) rfl rfl ?_ -- law.go:40 move
              refine Runs_nil ?_
              refine LoopQ.next (q + 1) [] (by omega) (by omega) ⟨⟨(leq_is rfl rfl (by first | rfl | (simp; done) | omega | (simp [toNat_add, toNat_add1, Nat.add_assoc]; done) | (simp [toNat_add, toNat_add1]; omega))), trivial⟩, ⟨(leq_is rfl rfl rfl), (leq_is rfl rfl rfl), (leq_sl (Reads.sl rfl) rfl rfl rfl), (leq_is rfl rfl rfl), trivial⟩, trivial, trivial, rfl, ⟨supg rfl, trivial⟩, ⟨supg rfl, supg rfl, supg rfl, supg rfl, trivial⟩, trivial, trivial, rfl, rfl⟩
              done)
          done)
      · try simp only [decide_eq_false_iff_not] at hb2
        all_goals (
          refine W_exit ?_
          refine thenQ_e ?_
          refine loopQ_e ?_
          refine blockQ_x ?_
          refine thenQ_n ?_
          refine W_seq ?_
          refine W_regionE (c := 68) (c' := 70) (by kernel_rfl) rfl ?_
          refine Runs_p rfl (Valid.movek (A := Is _) rfl rfl) rfl rfl ?_ -- law.go:49 move
          refine Runs_p rfl (Valid.assignk (A := Is _) rfl rfl) rfl rfl ?_ -- law.go:49 assign
          refine Runs_nil ?_
          refine thenQ_n ?_
          refine W_ret ?_
          refine finQ_r ?_
          refine ResOk.one rfl (RVal.is rfl rfl (rfl))
          done)
      done)
end Gw
end Go.Proofs.Ytlcephckjhiggaa
