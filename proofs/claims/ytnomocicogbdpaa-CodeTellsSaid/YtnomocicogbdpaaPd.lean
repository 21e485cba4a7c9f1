/-
  WALKS of stage 8: the law CodeTells.
-/
import Derived.Test.YtnomocicogbdpaaRows
import Derived.Test.YtnomocicogbdpaaMgc
import Derived.Test.YtnomocicogbdpaaOa
import Derived.Test.YtnomocicogbdpaaOb
import Derived.Test.YtnomocicogbdpaaOc
import Derived.Test.YtnomocicogbdpaaOd
import Derived.Test.YtnomocicogbdpaaOe
import Derived.Test.YtnomocicogbdpaaOf
import Derived.Test.YtnomocicogbdpaaOg
import Derived.Test.YtnomocicogbdpaaOh
import Derived.Test.YtnomocicogbdpaaOi
import Derived.Test.YtnomocicogbdpaaOj
import Derived.Test.YtnomocicogbdpaaOm
import Derived.Test.YtnomocicogbdpaaOk
import Derived.Test.YtnomocicogbdpaaOl
import Derived.Test.YtnomocicogbdpaaOn
import Derived.Test.YtnomocicogbdpaaOq
import Derived.Test.YtnomocicogbdpaaPa
import Derived.Test.YtnomocicogbdpaaPm
import Derived.Test.YtnomocicogbdpaaCa
import Derived.Test.YtnomocicogbdpaaMha
namespace Go.Proofs.Ytnomocicogbdpaa
open Go.RowKit
namespace Pd
open Ab Bm Bt Oa Ob Oc Od Oe Of Og Oh Oi Oj Om Ok Ol On Oq Pa Pm Ca Bb
theorem ag22 (w : World) : (isAgg 22).run Try.prog w = .ok false w := by kernel_rfl
theorem ag3 (w : World) : (isAgg 3).run Try.prog w = .ok false w := by kernel_rfl
theorem ag34 (w : World) : (isAgg 34).run Try.prog w = .ok true w := by kernel_rfl
theorem ag37 (w : World) : (isAgg 37).run Try.prog w = .ok true w := by kernel_rfl
theorem sz22 (w : World) : (sizeOf 22).run Try.prog w = .ok 1 w := by kernel_rfl
theorem sz3 (w : World) : (sizeOf 3).run Try.prog w = .ok 1 w := by kernel_rfl
theorem sz34 (w : World) : (sizeOf 34).run Try.prog w = .ok 2 w := by kernel_rfl
theorem sz37 (w : World) : (sizeOf 37).run Try.prog w = .ok 2 w := by kernel_rfl
theorem tf34 : TwoI Try.prog 34 .i64 .u64 { name := "Len", type := 3, offset := 0, embedded := false, tag := "", pkgPath := "", byteOffset := 0 } { name := "Bits", type := 32, offset := 1, embedded := false, tag := "", pkgPath := "", byteOffset := 8 } where
  und := by kernel_rfl
  plain := by kernel_rfl
  guard := by kernel_rfl
  flds := by kernel_rfl
  nf := by decide
  ng := by decide
  sf := Try.underlying3
  sg := Try.underlying32
  pf := fun _ _ _ => by kernel_rfl
  pg := fun _ _ _ => by kernel_rfl
theorem tf37 : TwoF Try.prog 37 .i64 { name := "Data", type := 9, offset := 0, embedded := false, tag := "", pkgPath := "", byteOffset := 0 } { name := "N", type := 3, offset := 1, embedded := false, tag := "", pkgPath := "", byteOffset := 16 } where
  und := by kernel_rfl
  plain := by kernel_rfl
  guard := by kernel_rfl
  flds := by kernel_rfl
  nf := by decide
  ng := by decide
  sf := Try.underlying9
  sg := Try.underlying3
  pf := fun _ _ _ => by kernel_rfl
  pg := fun _ _ _ => by kernel_rfl
theorem ti3 : TI Try.prog 3 1 8 := .mk' (z := (Value.int .i64 0)) (by kernel_rfl) rfl
theorem zv37 (w : World) : (zeroValue 37).run Try.prog w = .ok (.agg #[(Value.string ⟨#[]⟩), (Value.int .i64 0)]) w := by kernel_rfl
def four (a b c d : List Int) : Nat → List Int
  | 0 => a
  | 1 => b
  | 2 => c
  | _ => d
theorem four_p {P : List Int → Prop} {a b c d : List Int} (ha : P a) (hb : P b) (hc : P c) (hd : P d) : ∀ i, P (four a b c d i)
  | 0 => ha
  | 1 => hb
  | 2 => hc
  | _ + 3 => hd
def twoL (a b : List Int) : Nat → List Int
  | 0 => a
  | _ => b
theorem twoL_p {P : List Int → Prop} {a b : List Int} (ha : P a) (hb : P b) : ∀ i, P (twoL a b i)
  | 0 => ha
  | _ + 1 => hb
def Fit (l : List Int) : Prop := In64 l ∧ l.length ≤ 300
theorem fit_take {l : List Int} (h : In64 l) {k : Nat} (hk : k ≤ 300) : Fit (l.take k) := ⟨fun x hx => h x (List.mem_of_mem_take hx), by rw [List.length_take]; omega⟩
theorem fit_set {l : List Int} (h : Fit l) (k : Nat) {x : Int} (hx : -9223372036854775808 ≤ x ∧ x ≤ 9223372036854775807) : Fit (l.set k x) := ⟨fun y hy => by
  rcases List.mem_or_eq_of_mem_set hy with h1 | h1
  · exact h.1 y h1
  · rw [h1]; exact hx, by rw [List.length_set]; exact h.2⟩
theorem fit_app {l : List Int} (h : In64 l) (hl : l.length ≤ 40) {x : Int} (hx : 1 ≤ x ∧ x ≤ 20) : Fit (l ++ [x]) := ⟨in64_app h hx, by rw [List.length_append, List.length_singleton]; omega⟩
theorem wd_le (l : List Int) : (wdV l).length ≤ l.length := by
  unfold wdV
  split
  · rw [wdS_len]; omega
  · simp
theorem in64_2 {a b : Int} (ha : -9223372036854775808 ≤ a ∧ a ≤ 9223372036854775807) (hb : 0 ≤ b ∧ b < 180) : In64 [a, b] := fun x hx => by
  simp at hx
  rcases hx with rfl | rfl <;> omega

set_option maxRecDepth 100000 in
set_option maxHeartbeats 1000000 in
theorem tells_w (so : List Int) (hso : In64 so) (lso : so.length ≤ 9223372036854775807) (raw : List Int) (hraw : In64 raw) (lraw : raw.length ≤ 9223372036854775807) (wh : Int) (wwh : -9223372036854775808 ≤ wh ∧ wh ≤ 9223372036854775807) (x : Int) (wx : -9223372036854775808 ≤ x ∧ x ≤ 9223372036854775807) (sy : List Int) (_hsy : In64 sy) (lsy : sy.length ≤ 9223372036854775807) (s : ByteArray) (hs : s.size ≤ 9223372036854775807) (at_ : Int) (wat_ : -9223372036854775808 ≤ at_ ∧ at_ ≤ 9223372036854775807) :
    FPure Try.prog 3 [Sl 1 so.length (so.map (Value.int .i64)), Sl 1 raw.length (raw.map (Value.int .i64)), Is (.int .i64 wh), Is (.int .i64 x), Sl 1 sy.length (sy.map (Value.int .i64)), Is (.string s), Is (.int .i64 at_)] (Is (.bool true)) := by
  refine FPure.of Try.func3 Try.ntmps3 rfl (by kernel_rfl) rfl rfl rfl ?_
  refine W_seq ?_
  refine W_regionE (c := 1) (c' := 2) (by kernel_rfl) rfl ?_
  refine Runs_p rfl (Valid.assignk (A := Is _) rfl rfl) rfl rfl ?_ -- law.go:71 assign
  refine Runs_nil ?_
  refine thenQ_n ?_
  refine W_seq ?_
  refine W_regionE (c := 2) (c' := 4) (by kernel_rfl) rfl ?_
  refine Runs_p rfl (Valid.call rfl (awake8_s) trivial) rfl rfl ?_ -- law.go:72 call
  refine Runs_p rfl (Valid.assignk (A := Is _) rfl rfl) rfl rfl ?_ -- law.go:72 assign
  refine Runs_nil ?_
  refine thenQ_n ?_
  refine W_seq ?_
  refine W_regionE (c := 4) (c' := 7) (by kernel_rfl) rfl ?_
  refine Runs_p rfl (Valid.movek (A := Sl 1 _ _) rfl rfl) rfl rfl ?_ -- law.go:73 move
  refine Runs_p rfl (Valid.call rfl (lens_s _ 40 (by assumption) (by omega) (by decide)) ⟨argle_sl (Reads.sl rfl), argle rfl, trivial⟩) rfl rfl ?_ -- law.go:73 call
  refine Runs_p rfl (Valid.assignk (A := Sl 1 _ _) rfl rfl) rfl rfl ?_ -- law.go:73 assign
  refine Runs_nil ?_
  refine thenQ_n ?_
  refine W_seq ?_
  have hok := lenV_ok raw 40
  have hll := lenV_le raw 40 (by decide)
  generalize lenV raw 40 = l at hok hll ⊢
  have hin := OkL.in64 hok
  have hlen := OkL.len hok
  have hK := pickV_range wh (l.length : Int) (by omega)
  obtain ⟨K, hKe⟩ : ∃ K : Nat, pickV wh (l.length : Int) = (K : Int) := ⟨(pickV wh (l.length : Int)).toNat, by omega⟩
  rw [hKe] at hK
  have hKl : K < l.length := by omega
  refine W_regionE (c := 7) (c' := 10) (by kernel_rfl) rfl ?_
  refine Runs_p rfl (Valid.movek (A := Sl 1 _ _) rfl rfl) rfl rfl ?_ -- law.go:74 move
  refine Runs_w rfl (Valid.appnilB (f := Value.int .i64) rfl Try.underlying22 ti3 rfl (Reads.sl rfl) (by first | omega | (simp only [Int.toNat_natCast, toNat_add, toNat_add1, List.length_append, List.length_cons, List.length_nil, List.length_replicate]; omega)) (by first | (simp only [maxLen]; omega) | (simp only [maxLen, Int.toNat_natCast, toNat_add, toNat_add1, List.length_append, List.length_cons, List.length_nil, List.length_replicate]; omega)) (by first | omega | (simp only [Int.toNat_natCast, toNat_add, toNat_add1, List.length_append, List.length_cons, List.length_nil, List.length_replicate]; omega))) rfl rfl ?_ -- law.go:74 call
  refine Runs_p rfl (Valid.assignk (A := Buf 64 _) rfl rfl) rfl rfl ?_ -- law.go:74 assign
  refine Runs_nil ?_
  refine thenQ_n ?_
  refine W_seq ?_
  refine W_regionE (c := 10) (c' := 18) (by kernel_rfl) rfl ?_
  refine Runs_p rfl (Valid.movek (A := Buf 64 _) rfl rfl) rfl rfl ?_ -- law.go:75 move
  refine Runs_p rfl (Valid.movek (A := Is _) rfl rfl) rfl rfl ?_ -- law.go:75 move
  refine Runs_p rfl (Valid.movek (A := Sl 1 _ _) rfl rfl) rfl rfl ?_ -- law.go:75 move
  refine Runs_p rfl (Valid.len rfl Try.underlying22 (Reads.sl rfl)) rfl rfl ?_ -- law.go:75 call
  refine Runs_p rfl (Valid.call rfl (pick8_s _ _ wwh.1 wwh.2 (by omega) (by omega)) ⟨argle rfl, argle rfl, trivial⟩) rfl rfl ?_ -- law.go:75 call
  refine Runs_p rfl (Valid.movek (A := Is _) rfl rfl) rfl rfl ?_ -- law.go:75 move
  refine Runs_p rfl (Valid.idxB rfl Try.underlying22 sz3 rfl rfl (by first | omega | (simp only [Int.toNat_natCast, toNat_add, toNat_add1, List.length_append, List.length_cons, List.length_nil, List.length_replicate]; omega))) rfl rfl ?_ -- law.go:75 indexAddr
  refine Runs_op rfl (Valid.storeB _ rfl sz3 rfl rfl (by first | omega | (simp only [Int.toNat_natCast, toNat_add, toNat_add1, List.length_append, List.length_cons, List.length_nil, List.length_replicate]; omega)) rfl (One.is rfl rfl rfl)) rfl ?_ -- law.go:75 store
  refine Runs_nil ?_
  refine thenQ_n ?_
  refine W_seq ?_
  rw [hKe]
  have hT2 : (s.extract 0 (min (s.size : Int) 20).toNat).size ≤ 20 := by rw [ByteArray.size_extract]; omega
  refine W_regionE (c := 18) (c' := 24) (by kernel_rfl) rfl ?_
  refine Runs_p rfl (Valid.movek (A := Is _) rfl rfl) rfl rfl ?_ -- law.go:76 move
  refine Runs_p rfl (Valid.movek (A := Is _) rfl rfl) rfl rfl ?_ -- law.go:76 move
  refine Runs_p rfl (Valid.slen rfl Try.underlying9 rfl) rfl rfl ?_ -- law.go:76 call
  refine Runs_p rfl (Valid.min rfl rfl rfl) rfl rfl ?_ -- law.go:76 call
  refine Runs_p rfl (Valid.ssliceto rfl Try.underlying9 rfl rfl (by refine ⟨?_, ?_⟩ <;> omega)) rfl rfl ?_ -- law.go:76 slice
  refine Runs_p rfl (Valid.assignk (A := Is _) rfl rfl) rfl rfl ?_ -- law.go:76 assign
  refine Runs_nil ?_
  refine thenQ_n ?_
  refine W_seq ?_
  refine W_seq ?_
  generalize (s.extract 0 (min (s.size : Int) 20).toNat) = t at hT2 ⊢
  have hP := pickV_range x 20 (by decide)
  have hF := four_p (P := Fit) (fit_take hso (k := (min (so.length : Int) 300).toNat) (by omega)) ⟨hin, by omega⟩ (fit_set (l := l) ⟨hin, by omega⟩ K wx) (fit_app hin hll (x := 1 + pickV x 20) ⟨by omega, by omega⟩)
  refine W.ent ?_ (Ent.freezeBuf 17 64 _ rfl rfl (by rw [List.length_map, List.length_set]))
  refine W_drawE (c := 24) (c' := 41) (by kernel_rfl) rfl ?_
  refine Runs_p rfl (Valid.movek (A := Sl 1 _ _) rfl rfl) rfl rfl ?_ -- law.go:77 move
  refine Runs_p rfl (Valid.movek (A := Sl 1 _ _) rfl rfl) rfl rfl ?_ -- law.go:77 move
  refine Runs_p rfl (Valid.len rfl Try.underlying22 (Reads.sl rfl)) rfl rfl ?_ -- law.go:77 call
  refine Runs_p rfl (Valid.min rfl rfl rfl) rfl rfl ?_ -- law.go:77 call
  refine Runs_p rfl (Valid.sliceto1 rfl Try.underlying22 sz3 (Reads.sl rfl) rfl (by refine ⟨?_, ?_⟩ <;> omega)) rfl rfl ?_ -- law.go:77 slice
  refine Runs_p rfl (Valid.movek (A := Sl 1 _ _) rfl rfl) rfl rfl ?_ -- law.go:77 move
  refine Runs_p rfl (Valid.movek (A := Sl 1 _ _) rfl rfl) rfl rfl ?_ -- law.go:77 move
  refine Runs_p rfl (Valid.movek (A := Sl 1 _ _) rfl rfl) rfl rfl ?_ -- law.go:77 move
  refine Runs_w rfl (Valid.appnil rfl Try.underlying22 ti3 (by decide) rfl (Reads.sl rfl) (by first | exact one_map (fun _ => rfl) | exact one_cons rfl one_nil | exact one_app (one_map (fun _ => rfl)) (one_cons rfl one_nil) | exact one_app (one_map (fun _ => rfl)) (one_map (fun _ => rfl)) | exact one_rep rfl | exact one_app (one_rep rfl) (one_map (fun _ => rfl)) | (intro u hu; simp at hu; rcases hu with rfl | hu <;> first | rfl | (subst hu; rfl))) (by first | (simp only [maxLen]; omega) | (simp only [maxLen, Int.toNat_natCast, toNat_add, toNat_add1, List.length_append, List.length_cons, List.length_nil, List.length_replicate]; omega)) (by first | omega | (simp only [Int.toNat_natCast, toNat_add, toNat_add1, List.length_append, List.length_cons, List.length_nil, List.length_replicate]; omega))) rfl rfl ?_ -- law.go:77 call
  refine Runs_p rfl (Valid.movek (A := Is _) rfl rfl) rfl rfl ?_ -- law.go:77 move
  refine Runs_p rfl (Valid.call rfl (pick8_s _ _ wx.1 wx.2 (by decide) (by decide)) ⟨argle rfl, argle rfl, trivial⟩) rfl rfl ?_ -- law.go:77 call
  refine Runs_p rfl (Valid.add rfl rfl rfl (room64 (by first | omega | (simp only [Int.toNat_natCast, toNat_add, toNat_add1, List.length_append, List.length_cons, List.length_nil, List.length_replicate]; omega)) (by first | omega | (simp only [Int.toNat_natCast, toNat_add, toNat_add1, List.length_append, List.length_cons, List.length_nil, List.length_replicate]; omega)))) rfl rfl ?_ -- law.go:77 binOp
  refine Runs_p rfl (Valid.lit (el := 3) [_] rfl rfl (fun _ => by kernel_rfl) rfl (by decide)) rfl rfl ?_ -- law.go:77 buildSlice
  refine Runs_w rfl (Valid.app rfl Try.underlying22 ti3 (by decide) rfl rfl (Reads.sl rfl) (by first | exact one_map (fun _ => rfl) | exact one_cons rfl one_nil | exact one_app (one_map (fun _ => rfl)) (one_cons rfl one_nil) | exact one_app (one_map (fun _ => rfl)) (one_map (fun _ => rfl)) | exact one_rep rfl | exact one_app (one_rep rfl) (one_map (fun _ => rfl)) | (intro u hu; simp at hu; rcases hu with rfl | hu <;> first | rfl | (subst hu; rfl))) (by first | (simp only [maxLen]; omega) | (simp only [maxLen, Int.toNat_natCast, toNat_add, toNat_add1, List.length_append, List.length_cons, List.length_nil, List.length_replicate]; omega)) (by first | omega | (simp only [Int.toNat_natCast, toNat_add, toNat_add1, List.length_append, List.length_cons, List.length_nil, List.length_replicate]; omega))) rfl rfl ?_ -- law.go:77 call
  refine Runs_p rfl (Valid.litS4 (el := 22) (four (so.take (min (so.length : Int) 300).toNat) l (l.set K x) (l ++ [1 + pickV x 20])) rfl (Reads.sl rfl) (Reads.sl rfl) (Reads.sl rfl) (Reads.own rfl) (by first | rfl | (simp [four]; done) | (simp [four]; done) | (simp [four]; omega) | (simp [four, twoL, List.map_take, List.map_set, I64]; done) | (unfold four; rfl) | (unfold four; rw [List.length_set])) (by first | rfl | (simp [four, twoL]; done) | (simp [four, twoL, List.map_take]; done) | (simp [four, twoL]; omega) | (simp [four, twoL, List.map_take, List.map_set, I64]; done) | (unfold four; rfl) | (unfold four; rw [List.length_set])) (by first | rfl | (simp [four, twoL]; done) | (simp [four, twoL, List.map_take]; done) | (simp [four, twoL]; omega) | (simp [four, twoL, List.map_take, List.map_set, I64]; done) | (unfold four; rfl) | (unfold four; rw [List.length_set])) (by first | rfl | (simp [four, twoL]; done) | (simp [four, twoL, List.map_take]; done) | (simp [four, twoL]; omega) | (simp [four, twoL, List.map_take, List.map_set, I64]; done) | (unfold four; rfl) | (unfold four; rw [List.length_set])) (by first | rfl | (simp [four]; done) | (simp [four, twoL, List.map_take]; done) | (simp [four, twoL]; omega) | (simp [four, twoL, List.map_take, List.map_set, I64]; done) | (unfold four; rfl) | (unfold four; rw [List.length_set])) (by first | rfl | (simp [four, twoL]; done) | (simp [four, twoL, List.map_take]; done) | (simp [four, twoL]; omega) | (simp [four, twoL, List.map_take, List.map_set, I64]; done) | (unfold four; rfl) | (unfold four; rw [List.length_set])) (by first | rfl | (simp [four]; done) | (simp [four, twoL, List.map_take]; done) | (simp [four, twoL]; omega) | (simp [four, twoL, List.map_take, List.map_set, I64]; done) | (unfold four; rfl) | (unfold four; rw [List.length_set])) (by first | rfl | (simp [four]; done) | (simp [four, twoL, List.map_take]; done) | (simp [four, twoL]; omega) | (simp [four, twoL, List.map_take, List.map_set, I64]; done) | (unfold four; rfl) | (unfold four; rw [List.length_set])) (fun _ _ _ _ _ _ _ _ _ _ _ _ _ => by kernel_rfl)) rfl rfl ?_ -- law.go:77 buildSlice
  refine Runs_p rfl (Valid.lenS rfl Try.underlying26 rfl) rfl rfl ?_ -- law.go:77 call
  refine Runs_p rfl (Valid.movek (A := Is _) rfl rfl) rfl rfl ?_ -- law.go:77 move
  refine Runs_nil ?_
  refine ⟨_, _, rfl, rfl, by kernel_rfl, ?_⟩
  refine thenQ_n ?_
  refine W_block ?_
  refine W_loopx (G := Nat) (fun (j : Nat) => j ≤ 4) [(1, Sl 1 _ _), (4, Sl 1 _ _), (6, Is _), (15, Is _), (16, Sl 1 _ _), (18, Is _), (71, SlS 4 _), (72, Is _)] (fun (j : Nat) => [(73, Is (.int .i64 (j : Int)))]) [] (fun (j : Nat) => []) 41 (fun (j : Nat) => 4 - j) (0) [] (by first | trivial | omega | (simp; omega)) ⟨⟨(leq_is rfl rfl (by first | rfl)), trivial⟩, ⟨(leq_sl (Reads.sl rfl) rfl rfl rfl), (leq_sl (Reads.sl rfl) rfl rfl rfl), (leq_is rfl rfl rfl), (leq_is rfl rfl rfl), (leq_sl (Reads.sl rfl) rfl rfl rfl), (leq_is rfl rfl rfl), (leq_sls rfl rfl), (leq_is rfl rfl rfl), trivial⟩, trivial, trivial, rfl, ⟨supg rfl, trivial⟩, ⟨supg rfl, supg rfl, supg rfl, supg rfl, supg rfl, supg rfl, supg rfl, supg rfl, trivial⟩, trivial, trivial, rfl, rfl⟩ ?_
  intro j hI1
  refine W_seq ?_
  refine W_regionE (c := 41) (c' := 42) (by kernel_rfl) rfl ?_
  refine Runs_p rfl (Valid.lss rfl rfl rfl) rfl rfl ?_ -- law.go:77 binOp
  refine Runs_nil ?_
  refine thenQ_n ?_
  refine W_seq ?_
  refine W_cond _ rfl (fun hb1 => ?_) (fun hb1 => ?_)
  · try simp only [decide_eq_true_eq] at hb1
    all_goals (
      refine W_skip ?_
      refine thenQ_n ?_
      refine W_seq ?_
      refine W_block ?_
      refine W_seq ?_
      refine W_regionE (c := 42) (c' := 45) (by kernel_rfl) rfl ?_
      refine Runs_p rfl (Valid.eltS rfl Try.underlying26 sz22 rfl rfl (by first | omega | (simp only [Int.toNat_natCast, toNat_add, toNat_add1, List.length_append, List.length_cons, List.length_nil, List.length_replicate]; omega))) rfl rfl ?_ -- law.go:77 indexAddr
      refine Runs_p rfl (Valid.loadS rfl ag22 rfl) rfl rfl ?_ -- law.go:77 load
      refine Runs_p rfl (Valid.assignk (A := Sl 1 _ _) rfl rfl) rfl rfl ?_ -- law.go:77 assign
      refine Runs_nil ?_
      refine thenQ_n ?_
      refine W_seq ?_
      obtain ⟨hLi, hLl⟩ := hF (j : Int).toNat
      generalize four (so.take (min (so.length : Int) 300).toNat) l (l.set K x) (l ++ [1 + pickV x 20]) (j : Int).toNat = L at hLi hLl ⊢
      have hwl := wd_le L
      refine W_regionE (c := 45) (c' := 52) (by kernel_rfl) rfl ?_
      refine Runs_p rfl (Valid.movek (A := Sl 1 _ _) rfl rfl) rfl rfl ?_ -- law.go:78 move
      refine Runs_p rfl (Valid.call rfl (words_s L hLi (by omega)) ⟨argle_sl (Reads.sl rfl), trivial⟩) rfl rfl ?_ -- law.go:78 call
      refine Runs_p rfl (Valid.movek (A := Tup [Sl 2 _ _, Is _]) rfl rfl) rfl rfl ?_ -- law.go:78 move
      refine Runs_p rfl (Valid.extract _ rfl rfl rfl) rfl rfl ?_ -- law.go:78 extract
      refine Runs_p rfl (Valid.extract _ rfl rfl rfl) rfl rfl ?_ -- law.go:78 extract
      refine Runs_p rfl (Valid.assignk (A := Sl 2 _ _) rfl rfl) rfl rfl ?_ -- law.go:78 assign
      refine Runs_p rfl (Valid.assignk (A := Is _) rfl rfl) rfl rfl ?_ -- law.go:78 assign
      refine Runs_nil ?_
      refine thenQ_n ?_
      refine W_seq ?_
      refine W_regionE (c := 52) (c' := 59) (by kernel_rfl) rfl ?_
      refine Runs_p rfl (Valid.movek (A := Sl 1 _ _) rfl rfl) rfl rfl ?_ -- law.go:79 move
      refine Runs_p rfl (Valid.call rfl (rwords_s L hLi (by omega)) ⟨argle_sl (Reads.sl rfl), trivial⟩) rfl rfl ?_ -- law.go:79 call
      refine Runs_p rfl (Valid.movek (A := Tup [Sl 2 _ _, Is _]) rfl rfl) rfl rfl ?_ -- law.go:79 move
      refine Runs_p rfl (Valid.extract _ rfl rfl rfl) rfl rfl ?_ -- law.go:79 extract
      refine Runs_p rfl (Valid.extract _ rfl rfl rfl) rfl rfl ?_ -- law.go:79 extract
      refine Runs_p rfl (Valid.assignk (A := Sl 2 _ _) rfl rfl) rfl rfl ?_ -- law.go:79 assign
      refine Runs_p rfl (Valid.assignk (A := Is _) rfl rfl) rfl rfl ?_ -- law.go:79 assign
      refine Runs_nil ?_
      refine thenQ_n ?_
      refine W_seq ?_
      refine W_seq ?_
      refine W_regionE (c := 59) (c' := 76) (by kernel_rfl) rfl ?_
      refine Runs_p rfl (Valid.movek (A := Sl 1 _ _) rfl rfl) rfl rfl ?_ -- law.go:80 move
      refine Runs_p rfl (Valid.call rfl (check_s L hLi (by omega)) ⟨argle_sl (Reads.sl rfl), trivial⟩) rfl rfl ?_ -- law.go:80 call
      refine Runs_p rfl (Valid.movek (A := Sl 1 _ _) rfl rfl) rfl rfl ?_ -- law.go:80 move
      refine Runs_p rfl (Valid.call rfl (rcheck_s L hLi (by omega)) ⟨argle_sl (Reads.sl rfl), trivial⟩) rfl rfl ?_ -- law.go:80 call
      refine Runs_p rfl (Valid.neq rfl rfl rfl) rfl rfl ?_ -- law.go:80 binOp
      refine Runs_p rfl (Valid.movek (A := Is _) rfl rfl) rfl rfl ?_ -- law.go:80 move
      refine Runs_cnd rfl rfl (Grd.is rfl) [] (fun hg => trivial) (fun hg => Valid.movek (A := Is _) rfl rfl) (by rfl) rfl ?_
      refine Runs_cnd rfl rfl (Grd.is rfl) [] (fun hg => trivial) (fun hg => Valid.movek (A := Is _) rfl rfl) (by rfl) rfl ?_
      refine Runs_cnd rfl rfl (Grd.is rfl) [(93, _), (94, _)] (fun hg => ⟨cnd_at rfl (by first | exact hg | exact hg.1 | exact hg.1.1 | exact hg.1.1.1), cnd_at rfl (by first | exact hg | exact hg.1 | exact hg.1.1 | exact hg.1.1.1), trivial⟩) (fun hg => Valid.neq rfl rfl rfl) (by rfl) rfl ?_
      refine Runs_p rfl (Valid.pickor rfl rfl rfl rfl (fun h => by first | exact h | exact ⟨hg, h⟩)) rfl rfl ?_ -- law.go:80 pick
      refine Runs_p rfl (Valid.movek (A := Is _) rfl rfl) rfl rfl ?_ -- law.go:80 move
      refine Runs_cnd rfl rfl (Grd.is rfl) [] (fun hg => trivial) (fun hg => Valid.movek (A := Sl 2 _ _) rfl rfl) (by rfl) rfl ?_
      refine Runs_cnd rfl rfl (Grd.is rfl) [(98, _)] (fun hg => ⟨cnd_at rfl (by first | exact hg | exact hg.1 | exact hg.1.1 | exact hg.1.1.1), trivial⟩) (fun hg => Valid.len rfl Try.underlying27 (Reads.sl rfl)) (by rfl) rfl ?_
      refine Runs_cnd rfl rfl (Grd.is rfl) [] (fun hg => trivial) (fun hg => Valid.movek (A := Sl 2 _ _) rfl rfl) (by rfl) rfl ?_
      refine Runs_cnd rfl rfl (Grd.is rfl) [(100, _)] (fun hg => ⟨cnd_at rfl (by first | exact hg | exact hg.1 | exact hg.1.1 | exact hg.1.1.1), trivial⟩) (fun hg => Valid.len rfl Try.underlying27 (Reads.sl rfl)) (by rfl) rfl ?_
      refine Runs_cnd rfl rfl (Grd.is rfl) [(99, _), (101, _)] (fun hg => ⟨cnd_at rfl (by first | exact hg | exact hg.1 | exact hg.1.1 | exact hg.1.1.1), cnd_at rfl (by first | exact hg | exact hg.1 | exact hg.1.1 | exact hg.1.1.1), trivial⟩) (fun hg => Valid.neq rfl rfl rfl) (by rfl) rfl ?_
      refine Runs_p rfl (Valid.pickor rfl rfl rfl rfl (fun h => by first | exact h | exact ⟨hg, h⟩)) rfl rfl ?_ -- law.go:80 pick
      refine Runs_nil ?_
      refine thenQ_n ?_
      refine W_cond _ rfl (fun hb2 => ?_) (fun hb2 => ?_)
      · try simp only [decide_eq_true_eq, Bool.or_eq_true, not_true_eq_false, ne_eq] at hb2
        all_goals (
          refine W_seq ?_
          refine W_regionE (c := 76) (c' := 77) (by kernel_rfl) rfl ?_
          refine Runs_p rfl (Valid.assignk (A := Is _) rfl rfl) rfl rfl ?_ -- law.go:81 assign
          refine Runs_nil ?_
          refine thenQ_n ?_
          refine W_ret ?_
          refine thenQ_r ?_
          refine blockQ_r ?_
          refine thenQ_r ?_
          refine loopQ_r ?_
          refine blockQ_r ?_
          refine thenQ_r ?_
          refine finQ_r ?_
          refine ResOk.one rfl (RVal.is rfl rfl (by first | rfl | (exfalso; simp at hb2; done) | (exfalso; simp at hb3; done) | (exfalso; simp at hb4; done) | (exfalso; simp at hb5; done) | (exfalso; simp at hb6; done) | (exfalso; simp at hb7; done) | (exfalso; simp at hb8; done) | (exfalso; simp at hb9; done) | (trace_state; skip)))
          done)
      · try simp only [decide_eq_false_iff_not, Bool.or_eq_false_iff, not_true_eq_false, not_false_eq_true, ne_eq] at hb2
        all_goals (
          refine W_skip ?_
          refine thenQ_n ?_
          refine W_seq ?_
          refine W_seq ?_
          refine W_regionE (c := 76) (c' := 77) (by kernel_rfl) rfl ?_
          refine Runs_p rfl (Valid.assignk (A := Is _) rfl rfl) rfl rfl ?_ -- law.go:83 assign
          refine Runs_nil ?_
          refine thenQ_n ?_
          refine W_block ?_
          refine W_loopx (G := Nat) (fun (i : Nat) => i ≤ (wdV L).length) [(1, Sl 1 _ _), (4, Sl 1 _ _), (6, Is _), (15, Is _), (16, Sl 1 _ _), (18, Is _), (20, Sl 1 _ _), (21, Sl 2 _ _), (23, Sl 2 _ _), (71, SlS 4 _), (72, Is _), (73, Is _)] (fun (i : Nat) => [(25, Is (.int .i64 (i : Int)))]) [] (fun (i : Nat) => []) 77 (fun (i : Nat) => (wdV L).length - i) (0) [] (by first | trivial | omega | (simp; omega)) ⟨⟨(leq_is rfl rfl (by first | rfl)), trivial⟩, ⟨(leq_sl (Reads.sl rfl) rfl rfl rfl), (leq_sl (Reads.sl rfl) rfl rfl rfl), (leq_is rfl rfl rfl), (leq_is rfl rfl rfl), (leq_sl (Reads.sl rfl) rfl rfl rfl), (leq_is rfl rfl rfl), (leq_sl (Reads.sl rfl) rfl rfl rfl), (leq_sl (Reads.sl rfl) rfl rfl rfl), (leq_sl (Reads.sl rfl) rfl rfl rfl), (leq_sls rfl rfl), (leq_is rfl rfl rfl), (leq_is rfl rfl rfl), trivial⟩, trivial, trivial, rfl, ⟨supg rfl, trivial⟩, ⟨supg rfl, supg rfl, supg rfl, supg rfl, supg rfl, supg rfl, supg rfl, supg rfl, supg rfl, supg rfl, supg rfl, supg rfl, trivial⟩, trivial, trivial, rfl, rfl⟩ ?_
          intro i hI2
          refine W_seq ?_
          refine W_seq ?_
          refine W_regionE (c := 77) (c' := 81) (by kernel_rfl) rfl ?_
          refine Runs_p rfl (Valid.movek (A := Is _) rfl rfl) rfl rfl ?_ -- law.go:83 move
          refine Runs_p rfl (Valid.movek (A := Sl 2 _ _) rfl rfl) rfl rfl ?_ -- law.go:83 move
          refine Runs_p rfl (Valid.len rfl Try.underlying27 (Reads.sl rfl)) rfl rfl ?_ -- law.go:83 call
          refine Runs_p rfl (Valid.lss rfl rfl rfl) rfl rfl ?_ -- law.go:83 binOp
          refine Runs_nil ?_
          refine thenQ_n ?_
          refine W_cond _ rfl (fun hb3 => ?_) (fun hb3 => ?_)
          · try simp only [decide_eq_true_eq] at hb3
            all_goals (
              refine W_skip ?_
              refine thenQ_n ?_
              refine W_seq ?_
              refine W_block ?_
              refine W_seq ?_
              refine W_drawE (c := 81) (c' := 90) (by kernel_rfl) rfl ?_
              refine Runs_p rfl (Valid.movek (A := Sl 2 _ _) rfl rfl) rfl rfl ?_ -- law.go:84 move
              refine Runs_p rfl (Valid.movek (A := Is _) rfl rfl) rfl rfl ?_ -- law.go:84 move
              refine Runs_p rfl (Valid.eltE (f := (fun p : Int × Int => [Value.int .i64 p.1, Value.int .u64 p.2])) (0, 0) rfl (fun _ => rfl) Try.underlying27 sz34 (Reads.sl rfl) rfl (by first | omega | (simp only [Int.toNat_natCast, toNat_add, toNat_add1, List.length_append, List.length_cons, List.length_nil, List.length_replicate]; omega)) (by first | rfl | simp)) rfl rfl ?_ -- law.go:84 indexAddr
              refine Runs_p rfl (Valid.loadeltagg (vs := [_, _]) rfl ag34 sz34 rfl) rfl rfl ?_ -- law.go:84 load
              refine Runs_p rfl (Valid.movek (A := Sl 2 _ _) rfl rfl) rfl rfl ?_ -- law.go:84 move
              refine Runs_p rfl (Valid.movek (A := Is _) rfl rfl) rfl rfl ?_ -- law.go:84 move
              refine Runs_p rfl (Valid.eltE (f := (fun p : Int × Int => [Value.int .i64 p.1, Value.int .u64 p.2])) (0, 0) rfl (fun _ => rfl) Try.underlying27 sz34 (Reads.sl rfl) rfl (by first | omega | (simp only [Int.toNat_natCast, toNat_add, toNat_add1, List.length_append, List.length_cons, List.length_nil, List.length_replicate]; omega)) (by first | rfl | simp)) rfl rfl ?_ -- law.go:84 indexAddr
              refine Runs_p rfl (Valid.loadeltagg (vs := [_, _]) rfl ag34 sz34 rfl) rfl rfl ?_ -- law.go:84 load
              refine Runs_p rfl (Valid.sneI tf34 rfl rfl rfl) rfl rfl ?_ -- law.go:84 binOp
              refine Runs_nil ?_
              refine ⟨_, _, rfl, rfl, by kernel_rfl, ?_⟩
              refine thenQ_n ?_
              refine W_cond _ rfl (fun hb4 => ?_) (fun hb4 => ?_)
              · try simp only [Int.toNat_natCast, decide_eq_false_iff_not, Bool.not_eq_true'] at hb4
                all_goals (
                  refine W_seq ?_
                  refine W_regionE (c := 90) (c' := 91) (by kernel_rfl) rfl ?_
                  refine Runs_p rfl (Valid.assignk (A := Is _) rfl rfl) rfl rfl ?_ -- law.go:85 assign
                  refine Runs_nil ?_
                  refine thenQ_n ?_
                  refine W_ret ?_
                  refine blockQ_r ?_
                  refine thenQ_r ?_
                  refine loopQ_r ?_
                  refine blockQ_r ?_
                  refine thenQ_r ?_
                  refine blockQ_r ?_
                  refine thenQ_r ?_
                  refine loopQ_r ?_
                  refine blockQ_r ?_
                  refine thenQ_r ?_
                  refine finQ_r ?_
                  refine ResOk.one rfl (RVal.is rfl rfl (by first | rfl | (exfalso; simp at hb2; done) | (exfalso; simp at hb3; done) | (exfalso; simp at hb4; done) | (exfalso; simp at hb5; done) | (exfalso; simp at hb6; done) | (exfalso; simp at hb7; done) | (exfalso; simp at hb8; done) | (exfalso; simp at hb9; done) | (trace_state; skip)))
                  done)
              · try simp only [Int.toNat_natCast, decide_eq_true_eq, Bool.not_eq_false'] at hb4
                all_goals (
                  refine W_skip ?_
                  refine blockQ_n ?_
                  refine thenQ_n ?_
                  refine W_regionE (c := 90) (c' := 93) (by kernel_rfl) rfl ?_
                  refine Runs_p rfl (Valid.movek (A := Is _) rfl rfl) rfl rfl ?_ -- law.go:83 move
                  refine Runs_p rfl (Valid.add rfl rfl rfl (room64 (by first | omega | (simp only [Int.toNat_natCast, toNat_add, toNat_add1, List.length_append, List.length_cons, List.length_nil, List.length_replicate]; omega)) (by first | omega | (simp only [Int.toNat_natCast, toNat_add, toNat_add1, List.length_append, List.length_cons, List.length_nil, List.length_replicate]; omega)))) rfl rfl ?_ -- law.go:83 binOp
                  refine Runs_p rfl (Valid.assignk (A := Is _) rfl rfl) rfl rfl ?_ -- law.go:83 assign
                  refine Runs_nil ?_
                  refine LoopQ.next (i + 1) [] (by omega) (by omega) ⟨⟨(leq_is rfl rfl (by first | rfl)), trivial⟩, ⟨(leq_sl (Reads.sl rfl) rfl rfl rfl), (leq_sl (Reads.sl rfl) rfl rfl rfl), (leq_is rfl rfl rfl), (leq_is rfl rfl rfl), (leq_sl (Reads.sl rfl) rfl rfl rfl), (leq_is rfl rfl rfl), (leq_sl (Reads.sl rfl) rfl rfl rfl), (leq_sl (Reads.sl rfl) rfl rfl rfl), (leq_sl (Reads.sl rfl) rfl rfl rfl), (leq_sls rfl rfl), (leq_is rfl rfl rfl), (leq_is rfl rfl rfl), trivial⟩, trivial, trivial, rfl, ⟨supg rfl, trivial⟩, ⟨supg rfl, supg rfl, supg rfl, supg rfl, supg rfl, supg rfl, supg rfl, supg rfl, supg rfl, supg rfl, supg rfl, supg rfl, trivial⟩, trivial, trivial, rfl, rfl⟩
                  done)
              done)
          · try simp only [decide_eq_false_iff_not] at hb3
            all_goals (
              refine W_exit ?_
              refine thenQ_e ?_
              refine loopQ_e ?_
              refine blockQ_x ?_
              refine thenQ_n ?_
              refine W_seq ?_
              refine W_seq ?_
              have hG := twoL_p (P := fun m => m.length ≤ 20) (a := sy.take (min (sy.length : Int) 20).toNat) (b := symV raw (l.length : Int) 20) (by rw [List.length_take]; omega) (by rw [sym_len]; omega)
              refine W_drawE (c := 81) (c' := 93) (by kernel_rfl) rfl ?_
              refine Runs_p rfl (Valid.movek (A := Sl 1 _ _) rfl rfl) rfl rfl ?_ -- law.go:88 move
              refine Runs_p rfl (Valid.movek (A := Sl 1 _ _) rfl rfl) rfl rfl ?_ -- law.go:88 move
              refine Runs_p rfl (Valid.len rfl Try.underlying22 (Reads.sl rfl)) rfl rfl ?_ -- law.go:88 call
              refine Runs_p rfl (Valid.min rfl rfl rfl) rfl rfl ?_ -- law.go:88 call
              refine Runs_p rfl (Valid.sliceto1 rfl Try.underlying22 sz3 (Reads.sl rfl) rfl (by refine ⟨?_, ?_⟩ <;> omega)) rfl rfl ?_ -- law.go:88 slice
              refine Runs_p rfl (Valid.movek (A := Sl 1 _ _) rfl rfl) rfl rfl ?_ -- law.go:88 move
              refine Runs_p rfl (Valid.movek (A := Sl 1 _ _) rfl rfl) rfl rfl ?_ -- law.go:88 move
              refine Runs_p rfl (Valid.len rfl Try.underlying22 (Reads.sl rfl)) rfl rfl ?_ -- law.go:88 call
              refine Runs_p rfl (Valid.call rfl (sym_s raw (l.length : Int) 20 (by assumption) (by omega) (by omega) (by omega) (by decide)) ⟨argle_sl (Reads.sl rfl), argle rfl, argle rfl, trivial⟩) rfl rfl ?_ -- law.go:88 call
              refine Runs_p rfl (Valid.litS2 (el := 22) (twoL (sy.take (min (sy.length : Int) 20).toNat) (symV raw (l.length : Int) 20)) rfl (Reads.sl rfl) (Reads.sl rfl) (by first | rfl | (simp [twoL]; done) | (simp [twoL]; done) | (simp [twoL]; omega) | (simp [four, twoL, List.map_take, List.map_set, I64]; done) | (unfold four; rfl) | (unfold four; rw [List.length_set])) (by first | rfl | (simp [four, twoL]; done) | (simp [four, twoL, List.map_take]; done) | (simp [four, twoL]; omega) | (simp [four, twoL, List.map_take, List.map_set, I64]; done) | (unfold four; rfl) | (unfold four; rw [List.length_set])) (by first | rfl | (simp [four, twoL]; done) | (simp [four, twoL, List.map_take]; done) | (simp [four, twoL]; omega) | (simp [four, twoL, List.map_take, List.map_set, I64]; done) | (unfold four; rfl) | (unfold four; rw [List.length_set])) (by first | rfl | (simp [four, twoL]; done) | (simp [four, twoL, List.map_take]; done) | (simp [four, twoL]; omega) | (simp [four, twoL, List.map_take, List.map_set, I64]; done) | (unfold four; rfl) | (unfold four; rw [List.length_set])) (fun _ _ _ _ _ _ _ => by kernel_rfl)) rfl rfl ?_ -- law.go:88 buildSlice
              refine Runs_p rfl (Valid.lenS rfl Try.underlying26 rfl) rfl rfl ?_ -- law.go:88 call
              refine Runs_p rfl (Valid.movek (A := Is _) rfl rfl) rfl rfl ?_ -- law.go:88 move
              refine Runs_nil ?_
              refine ⟨_, _, rfl, rfl, by kernel_rfl, ?_⟩
              refine thenQ_n ?_
              refine W_block ?_
              refine W_loopx (G := Nat) (fun (i : Nat) => i ≤ 2) [(1, Sl 1 _ _), (4, Sl 1 _ _), (6, Is _), (15, Is _), (16, Sl 1 _ _), (18, Is _), (20, Sl 1 _ _), (71, SlS 4 _), (72, Is _), (73, Is _), (128, SlS 2 _), (129, Is _)] (fun (i : Nat) => [(130, Is (.int .i64 (i : Int)))]) [] (fun (i : Nat) => []) 93 (fun (i : Nat) => 2 - i) (0) [] (by first | trivial | omega | (simp; omega)) ⟨⟨(leq_is rfl rfl (by first | rfl)), trivial⟩, ⟨(leq_sl (Reads.sl rfl) rfl rfl rfl), (leq_sl (Reads.sl rfl) rfl rfl rfl), (leq_is rfl rfl rfl), (leq_is rfl rfl rfl), (leq_sl (Reads.sl rfl) rfl rfl rfl), (leq_is rfl rfl rfl), (leq_sl (Reads.sl rfl) rfl rfl rfl), (leq_sls rfl rfl), (leq_is rfl rfl rfl), (leq_is rfl rfl rfl), (leq_sls rfl rfl), (leq_is rfl rfl rfl), trivial⟩, trivial, trivial, rfl, ⟨supg rfl, trivial⟩, ⟨supg rfl, supg rfl, supg rfl, supg rfl, supg rfl, supg rfl, supg rfl, supg rfl, supg rfl, supg rfl, supg rfl, supg rfl, trivial⟩, trivial, trivial, rfl, rfl⟩ ?_
              intro i hI3
              refine W_seq ?_
              refine W_regionE (c := 93) (c' := 94) (by kernel_rfl) rfl ?_
              refine Runs_p rfl (Valid.lss rfl rfl rfl) rfl rfl ?_ -- law.go:88 binOp
              refine Runs_nil ?_
              refine thenQ_n ?_
              refine W_seq ?_
              refine W_cond _ rfl (fun hb5 => ?_) (fun hb5 => ?_)
              · try simp only [decide_eq_true_eq] at hb5
                all_goals (
                  refine W_skip ?_
                  refine thenQ_n ?_
                  refine W_seq ?_
                  refine W_block ?_
                  refine W_seq ?_
                  refine W_regionE (c := 94) (c' := 97) (by kernel_rfl) rfl ?_
                  refine Runs_p rfl (Valid.eltS rfl Try.underlying26 sz22 rfl rfl (by first | omega | (simp only [Int.toNat_natCast, toNat_add, toNat_add1, List.length_append, List.length_cons, List.length_nil, List.length_replicate]; omega))) rfl rfl ?_ -- law.go:88 indexAddr
                  refine Runs_p rfl (Valid.loadS rfl ag22 rfl) rfl rfl ?_ -- law.go:88 load
                  refine Runs_p rfl (Valid.assignk (A := Sl 1 _ _) rfl rfl) rfl rfl ?_ -- law.go:88 assign
                  refine Runs_nil ?_
                  refine thenQ_n ?_
                  refine W_seq ?_
                  have hMl := hG (i : Int).toNat
                  generalize twoL (sy.take (min (sy.length : Int) 20).toNat) (symV raw (l.length : Int) 20) (i : Int).toNat = M at hMl ⊢
                  refine W_regionE (c := 97) (c' := 106) (by kernel_rfl) rfl ?_
                  refine Runs_p rfl (Valid.movek (A := Sl 1 _ _) rfl rfl) rfl rfl ?_ -- law.go:89 move
                  refine Runs_p rfl (Valid.movek (A := Sl 1 _ _) rfl rfl) rfl rfl ?_ -- law.go:89 move
                  refine Runs_p rfl (Valid.call rfl (cput_s L hLi (by omega) M (by omega)) ⟨argle_sl (Reads.sl rfl), argle_sl (Reads.sl rfl), trivial⟩) rfl rfl ?_ -- law.go:89 call
                  refine Runs_p rfl (Valid.movek (A := Tup [Agg [Is _, Is _], Is _]) rfl rfl) rfl rfl ?_ -- law.go:89 move
                  refine Runs_p rfl (Valid.extract _ rfl rfl rfl) rfl rfl ?_ -- law.go:89 extract
                  refine Runs_p rfl (Valid.extract _ rfl rfl rfl) rfl rfl ?_ -- law.go:89 extract
                  refine Runs_w rfl (Valid.alloc [(Value.string ⟨#[]⟩), (Value.int .i64 0)] rfl zv37 rfl) rfl rfl ?_ -- law.go:89 alloc
                  refine Runs_op rfl (Valid.storeagg (l := [_, _]) rfl sz37 rfl rfl (Nat.le_of_ble_eq_true rfl) rfl ⟨(One.is rfl rfl rfl), (One.is rfl rfl rfl), trivial⟩) rfl ?_ -- law.go:89 store
                  refine Runs_p rfl (Valid.assignk (A := Is _) rfl rfl) rfl rfl ?_ -- law.go:89 assign
                  refine Runs_nil ?_
                  refine thenQ_n ?_
                  refine W_seq ?_
                  refine W_regionE (c := 106) (c' := 115) (by kernel_rfl) rfl ?_
                  refine Runs_p rfl (Valid.movek (A := Sl 1 _ _) rfl rfl) rfl rfl ?_ -- law.go:90 move
                  refine Runs_p rfl (Valid.movek (A := Sl 1 _ _) rfl rfl) rfl rfl ?_ -- law.go:90 move
                  refine Runs_p rfl (Valid.call rfl (rput_s L hLi (by omega) M (by omega)) ⟨argle_sl (Reads.sl rfl), argle_sl (Reads.sl rfl), trivial⟩) rfl rfl ?_ -- law.go:90 call
                  refine Runs_p rfl (Valid.movek (A := Tup [Agg [Is _, Is _], Is _]) rfl rfl) rfl rfl ?_ -- law.go:90 move
                  refine Runs_p rfl (Valid.extract _ rfl rfl rfl) rfl rfl ?_ -- law.go:90 extract
                  refine Runs_p rfl (Valid.extract _ rfl rfl rfl) rfl rfl ?_ -- law.go:90 extract
                  refine Runs_w rfl (Valid.alloc [(Value.string ⟨#[]⟩), (Value.int .i64 0)] rfl zv37 rfl) rfl rfl ?_ -- law.go:90 alloc
                  refine Runs_op rfl (Valid.storeagg (l := [_, _]) rfl sz37 rfl rfl (Nat.le_of_ble_eq_true rfl) rfl ⟨(One.is rfl rfl rfl), (One.is rfl rfl rfl), trivial⟩) rfl ?_ -- law.go:90 store
                  refine Runs_p rfl (Valid.assignk (A := Is _) rfl rfl) rfl rfl ?_ -- law.go:90 assign
                  refine Runs_nil ?_
                  refine thenQ_n ?_
                  refine W_seq ?_
                  refine W_regionE (c := 115) (c' := 123) (by kernel_rfl) rfl ?_
                  refine Runs_p rfl (Valid.movek (A := Is _) rfl rfl) rfl rfl ?_ -- law.go:91 move
                  refine Runs_p rfl (Valid.movek (A := Is _) rfl rfl) rfl rfl ?_ -- law.go:91 move
                  refine Runs_p rfl (Valid.neq rfl rfl rfl) rfl rfl ?_ -- law.go:91 binOp
                  refine Runs_p rfl (Valid.movek (A := Is _) rfl rfl) rfl rfl ?_ -- law.go:91 move
                  refine Runs_cnd rfl rfl (Grd.is rfl) [] (fun hg => trivial) (fun hg => Valid.loadagg rfl ag37 sz37 rfl rfl (Nat.le_of_ble_eq_true rfl)) (by rfl) rfl ?_
                  refine Runs_cnd rfl rfl (Grd.is rfl) [] (fun hg => trivial) (fun hg => Valid.loadagg rfl ag37 sz37 rfl rfl (Nat.le_of_ble_eq_true rfl)) (by rfl) rfl ?_
                  refine Runs_cnd rfl rfl (Grd.is rfl) [(150, _), (151, _)] (fun hg => ⟨cnd_at rfl (by first | exact hg | exact hg.1 | exact hg.1.1 | exact hg.1.1.1), cnd_at rfl (by first | exact hg | exact hg.1 | exact hg.1.1 | exact hg.1.1.1), trivial⟩) (fun hg => Valid.sneS tf37 rfl rfl rfl) (by rfl) rfl ?_
                  refine Runs_p rfl (Valid.pickor rfl rfl rfl rfl (fun h => by first | exact h | exact ⟨hg, h⟩)) rfl rfl ?_ -- law.go:91 pick
                  refine Runs_nil ?_
                  refine thenQ_n ?_
                  refine W_cond _ rfl (fun hb6 => ?_) (fun hb6 => ?_)
                  · try simp only [decide_eq_true_eq, decide_eq_false_iff_not, Bool.or_eq_true, Bool.not_eq_true', not_true_eq_false, ne_eq] at hb6
                    all_goals (
                      refine W_seq ?_
                      refine W_regionE (c := 123) (c' := 124) (by kernel_rfl) rfl ?_
                      refine Runs_p rfl (Valid.assignk (A := Is _) rfl rfl) rfl rfl ?_ -- law.go:92 assign
                      refine Runs_nil ?_
                      refine thenQ_n ?_
                      refine W_ret ?_
                      refine blockQ_r ?_
                      refine thenQ_r ?_
                      refine loopQ_r ?_
                      refine blockQ_r ?_
                      refine thenQ_r ?_
                      refine blockQ_r ?_
                      refine thenQ_r ?_
                      refine loopQ_r ?_
                      refine blockQ_r ?_
                      refine thenQ_r ?_
                      refine finQ_r ?_
                      refine ResOk.one rfl (RVal.is rfl rfl (by first | rfl | (exfalso; simp at hb2; done) | (exfalso; simp at hb3; done) | (exfalso; simp at hb4; done) | (exfalso; simp at hb5; done) | (exfalso; simp at hb6; done) | (exfalso; simp at hb7; done) | (exfalso; simp at hb8; done) | (exfalso; simp at hb9; done) | (trace_state; skip)))
                      done)
                  · try simp only [decide_eq_true_eq, decide_eq_false_iff_not, Bool.or_eq_false_iff, Bool.not_eq_false', not_true_eq_false, not_false_eq_true, ne_eq] at hb6
                    all_goals (
                      refine W_skip ?_
                      refine blockQ_n ?_
                      refine thenQ_n ?_
                      refine W_regionE (c := 123) (c' := 125) (by kernel_rfl) rfl ?_
                      refine Runs_p rfl (Valid.add rfl rfl rfl (room64 (by first | omega | (simp only [Int.toNat_natCast, toNat_add, toNat_add1, List.length_append, List.length_cons, List.length_nil, List.length_replicate]; omega)) (by first | omega | (simp only [Int.toNat_natCast, toNat_add, toNat_add1, List.length_append, List.length_cons, List.length_nil, List.length_replicate]; omega)))) rfl rfl ?_ -- law.go:88 binOp
                      refine Runs_p rfl (Valid.movek (A := Is _) rfl rfl) rfl rfl ?_ -- law.go:88 move
                      refine Runs_nil ?_
                      refine LoopQ.next (i + 1) [] (by omega) (by omega) ⟨⟨(leq_is rfl rfl (by first | rfl)), trivial⟩, ⟨(leq_sl (Reads.sl rfl) rfl rfl rfl), (leq_sl (Reads.sl rfl) rfl rfl rfl), (leq_is rfl rfl rfl), (leq_is rfl rfl rfl), (leq_sl (Reads.sl rfl) rfl rfl rfl), (leq_is rfl rfl rfl), (leq_sl (Reads.sl rfl) rfl rfl rfl), (leq_sls rfl rfl), (leq_is rfl rfl rfl), (leq_is rfl rfl rfl), (leq_sls rfl rfl), (leq_is rfl rfl rfl), trivial⟩, trivial, trivial, rfl, ⟨supg rfl, trivial⟩, ⟨supg rfl, supg rfl, supg rfl, supg rfl, supg rfl, supg rfl, supg rfl, supg rfl, supg rfl, supg rfl, supg rfl, supg rfl, trivial⟩, trivial, trivial, rfl, rfl⟩
                      done)
                  done)
              · try simp only [decide_eq_false_iff_not] at hb5
                all_goals (
                  refine W_exit ?_
                  refine thenQ_e ?_
                  refine loopQ_e ?_
                  refine blockQ_x ?_
                  refine thenQ_n ?_
                  refine W_seq ?_
                  have hat2 := in64_2 wat_ (pickV_range at_ 180 (by decide))
                  have hat := fun i : Nat => In64.at_ hat2 i
                  refine W_regionE (c := 94) (c' := 100) (by kernel_rfl) rfl ?_
                  refine Runs_p rfl (Valid.movek (A := Is _) rfl rfl) rfl rfl ?_ -- law.go:95 move
                  refine Runs_p rfl (Valid.movek (A := Is _) rfl rfl) rfl rfl ?_ -- law.go:95 move
                  refine Runs_p rfl (Valid.call rfl (pick8_s _ _ wat_.1 wat_.2 (by decide) (by decide)) ⟨argle rfl, argle rfl, trivial⟩) rfl rfl ?_ -- law.go:95 call
                  refine Runs_p rfl (Valid.lit (el := 3) (([at_, pickV at_ 180] : List Int).map (Value.int .i64)) rfl rfl (fun _ => by kernel_rfl) rfl (by decide)) rfl rfl ?_ -- law.go:95 buildSlice
                  refine Runs_p rfl (Valid.len rfl Try.underlying22 (Reads.sl rfl)) rfl rfl ?_ -- law.go:95 call
                  refine Runs_p rfl (Valid.movek (A := Is _) rfl rfl) rfl rfl ?_ -- law.go:95 move
                  refine Runs_nil ?_
                  refine thenQ_n ?_
                  refine W_block ?_
                  refine W_loopx (G := Nat) (fun (i : Nat) => i ≤ 2) [(1, Sl 1 _ _), (4, Sl 1 _ _), (6, Is _), (15, Is _), (16, Sl 1 _ _), (18, Is _), (20, Sl 1 _ _), (71, SlS 4 _), (72, Is _), (73, Is _), (158, Sl 1 _ _), (159, Is _)] (fun (i : Nat) => [(160, Is (.int .i64 (i : Int)))]) [] (fun (i : Nat) => []) 100 (fun (i : Nat) => 2 - i) (0) [] (by first | trivial | omega | (simp; omega)) ⟨⟨(leq_is rfl rfl (by first | rfl)), trivial⟩, ⟨(leq_sl (Reads.sl rfl) rfl rfl rfl), (leq_sl (Reads.sl rfl) rfl rfl rfl), (leq_is rfl rfl rfl), (leq_is rfl rfl rfl), (leq_sl (Reads.sl rfl) rfl rfl rfl), (leq_is rfl rfl rfl), (leq_sl (Reads.sl rfl) rfl rfl rfl), (leq_sls rfl rfl), (leq_is rfl rfl rfl), (leq_is rfl rfl rfl), (leq_sl (Reads.sl rfl) rfl rfl rfl), (leq_is rfl rfl rfl), trivial⟩, trivial, trivial, rfl, ⟨supg rfl, trivial⟩, ⟨supg rfl, supg rfl, supg rfl, supg rfl, supg rfl, supg rfl, supg rfl, supg rfl, supg rfl, supg rfl, supg rfl, supg rfl, trivial⟩, trivial, trivial, rfl, rfl⟩ ?_
                  intro i hI4
                  refine W_seq ?_
                  refine W_regionE (c := 100) (c' := 101) (by kernel_rfl) rfl ?_
                  refine Runs_p rfl (Valid.lss rfl rfl rfl) rfl rfl ?_ -- law.go:95 binOp
                  refine Runs_nil ?_
                  refine thenQ_n ?_
                  refine W_seq ?_
                  refine W_cond _ rfl (fun hb7 => ?_) (fun hb7 => ?_)
                  · try simp only [decide_eq_true_eq] at hb7
                    all_goals (
                      refine W_skip ?_
                      refine thenQ_n ?_
                      refine W_seq ?_
                      refine W_block ?_
                      refine W_seq ?_
                      refine W_regionE (c := 101) (c' := 104) (by kernel_rfl) rfl ?_
                      refine Runs_p rfl (Valid.eltaddr1 0 rfl Try.underlying22 sz3 (Reads.sl rfl) rfl (by first | omega | (simp only [Int.toNat_natCast, toNat_add, toNat_add1, List.length_append, List.length_cons, List.length_nil, List.length_replicate]; omega)) (by first | rfl | simp)) rfl rfl ?_ -- law.go:95 indexAddr
                      refine Runs_p rfl (Valid.loadelt rfl ag3 rfl) rfl rfl ?_ -- law.go:95 load
                      refine Runs_p rfl (Valid.assignk (A := Is _) rfl rfl) rfl rfl ?_ -- law.go:95 assign
                      refine Runs_nil ?_
                      refine thenQ_n ?_
                      refine W_seq ?_
                      refine W_regionE (c := 104) (c' := 115) (by kernel_rfl) rfl ?_
                      refine Runs_p rfl (Valid.movek (A := Sl 1 _ _) rfl rfl) rfl rfl ?_ -- law.go:96 move
                      refine Runs_p rfl (Valid.movek (A := Is _) rfl rfl) rfl rfl ?_ -- law.go:96 move
                      refine Runs_p rfl (Valid.movek (A := Is _) rfl rfl) rfl rfl ?_ -- law.go:96 move
                      refine Runs_p rfl (Valid.call rfl (take_s L hLi (by omega) t (by omega) _ (hat _)) ⟨argle_sl (Reads.sl rfl), argle rfl, argle rfl, trivial⟩) rfl rfl ?_ -- law.go:96 call
                      refine Runs_p rfl (Valid.movek (A := Tup [Is _, Is _, Is _]) rfl rfl) rfl rfl ?_ -- law.go:96 move
                      refine Runs_p rfl (Valid.extract _ rfl rfl rfl) rfl rfl ?_ -- law.go:96 extract
                      refine Runs_p rfl (Valid.extract _ rfl rfl rfl) rfl rfl ?_ -- law.go:96 extract
                      refine Runs_p rfl (Valid.extract _ rfl rfl rfl) rfl rfl ?_ -- law.go:96 extract
                      refine Runs_p rfl (Valid.assignk (A := Is _) rfl rfl) rfl rfl ?_ -- law.go:96 assign
                      refine Runs_p rfl (Valid.assignk (A := Is _) rfl rfl) rfl rfl ?_ -- law.go:96 assign
                      refine Runs_p rfl (Valid.assignk (A := Is _) rfl rfl) rfl rfl ?_ -- law.go:96 assign
                      refine Runs_nil ?_
                      refine thenQ_n ?_
                      refine W_seq ?_
                      refine W_regionE (c := 115) (c' := 126) (by kernel_rfl) rfl ?_
                      refine Runs_p rfl (Valid.movek (A := Sl 1 _ _) rfl rfl) rfl rfl ?_ -- law.go:97 move
                      refine Runs_p rfl (Valid.movek (A := Is _) rfl rfl) rfl rfl ?_ -- law.go:97 move
                      refine Runs_p rfl (Valid.movek (A := Is _) rfl rfl) rfl rfl ?_ -- law.go:97 move
                      refine Runs_p rfl (Valid.call rfl (rtake_s L hLi (by omega) t (by omega) _ (hat _)) ⟨argle_sl (Reads.sl rfl), argle rfl, argle rfl, trivial⟩) rfl rfl ?_ -- law.go:97 call
                      refine Runs_p rfl (Valid.movek (A := Tup [Is _, Is _, Is _]) rfl rfl) rfl rfl ?_ -- law.go:97 move
                      refine Runs_p rfl (Valid.extract _ rfl rfl rfl) rfl rfl ?_ -- law.go:97 extract
                      refine Runs_p rfl (Valid.extract _ rfl rfl rfl) rfl rfl ?_ -- law.go:97 extract
                      refine Runs_p rfl (Valid.extract _ rfl rfl rfl) rfl rfl ?_ -- law.go:97 extract
                      refine Runs_p rfl (Valid.assignk (A := Is _) rfl rfl) rfl rfl ?_ -- law.go:97 assign
                      refine Runs_p rfl (Valid.assignk (A := Is _) rfl rfl) rfl rfl ?_ -- law.go:97 assign
                      refine Runs_p rfl (Valid.assignk (A := Is _) rfl rfl) rfl rfl ?_ -- law.go:97 assign
                      refine Runs_nil ?_
                      refine thenQ_n ?_
                      refine W_seq ?_
                      refine W_regionE (c := 126) (c' := 139) (by kernel_rfl) rfl ?_
                      refine Runs_p rfl (Valid.movek (A := Is _) rfl rfl) rfl rfl ?_ -- law.go:98 move
                      refine Runs_p rfl (Valid.movek (A := Is _) rfl rfl) rfl rfl ?_ -- law.go:98 move
                      refine Runs_p rfl (Valid.neq rfl rfl rfl) rfl rfl ?_ -- law.go:98 binOp
                      refine Runs_p rfl (Valid.movek (A := Is _) rfl rfl) rfl rfl ?_ -- law.go:98 move
                      refine Runs_cnd rfl rfl (Grd.is rfl) [] (fun hg => trivial) (fun hg => Valid.movek (A := Is _) rfl rfl) (by rfl) rfl ?_
                      refine Runs_cnd rfl rfl (Grd.is rfl) [] (fun hg => trivial) (fun hg => Valid.movek (A := Is _) rfl rfl) (by rfl) rfl ?_
                      refine Runs_cnd rfl rfl (Grd.is rfl) [(184, _), (185, _)] (fun hg => ⟨cnd_at rfl (by first | exact hg | exact hg.1 | exact hg.1.1 | exact hg.1.1.1), cnd_at rfl (by first | exact hg | exact hg.1 | exact hg.1.1 | exact hg.1.1.1), trivial⟩) (fun hg => Valid.neq rfl rfl rfl) (by rfl) rfl ?_
                      refine Runs_p rfl (Valid.pickor rfl rfl rfl rfl (fun h => by first | exact h | exact ⟨hg, h⟩)) rfl rfl ?_ -- law.go:98 pick
                      refine Runs_p rfl (Valid.movek (A := Is _) rfl rfl) rfl rfl ?_ -- law.go:98 move
                      refine Runs_cnd rfl rfl (Grd.is rfl) [] (fun hg => trivial) (fun hg => Valid.movek (A := Is _) rfl rfl) (by rfl) rfl ?_
                      refine Runs_cnd rfl rfl (Grd.is rfl) [] (fun hg => trivial) (fun hg => Valid.movek (A := Is _) rfl rfl) (by rfl) rfl ?_
                      refine Runs_cnd rfl rfl (Grd.is rfl) [(189, _), (190, _)] (fun hg => ⟨cnd_at rfl (by first | exact hg | exact hg.1 | exact hg.1.1 | exact hg.1.1.1), cnd_at rfl (by first | exact hg | exact hg.1 | exact hg.1.1 | exact hg.1.1.1), trivial⟩) (fun hg => Valid.neq rfl rfl rfl) (by rfl) rfl ?_
                      refine Runs_p rfl (Valid.pickor rfl rfl rfl rfl (fun h => by first | exact h | exact ⟨hg, h⟩)) rfl rfl ?_ -- law.go:98 pick
                      refine Runs_nil ?_
                      refine thenQ_n ?_
                      refine W_cond _ rfl (fun hb8 => ?_) (fun hb8 => ?_)
                      · try simp only [Int.toNat_natCast, decide_eq_true_eq, Bool.or_eq_true, not_true_eq_false, ne_eq] at hb8
                        all_goals (
                          refine W_seq ?_
                          refine W_regionE (c := 139) (c' := 140) (by kernel_rfl) rfl ?_
                          refine Runs_p rfl (Valid.assignk (A := Is _) rfl rfl) rfl rfl ?_ -- law.go:99 assign
                          refine Runs_nil ?_
                          refine thenQ_n ?_
                          refine W_ret ?_
                          refine blockQ_r ?_
                          refine thenQ_r ?_
                          refine loopQ_r ?_
                          refine blockQ_r ?_
                          refine blockQ_r ?_
                          refine thenQ_r ?_
                          refine loopQ_r ?_
                          refine blockQ_r ?_
                          refine thenQ_r ?_
                          refine finQ_r ?_
                          refine ResOk.one rfl (RVal.is rfl rfl (by first | rfl | (exfalso; simp at hb2; done) | (exfalso; simp at hb3; done) | (exfalso; simp at hb4; done) | (exfalso; simp at hb5; done) | (exfalso; simp at hb6; done) | (exfalso; simp at hb7; done) | (exfalso; simp at hb8; done) | (exfalso; simp at hb9; done) | (trace_state; skip)))
                          done)
                      · try simp only [Int.toNat_natCast, decide_eq_false_iff_not, Bool.or_eq_false_iff, not_true_eq_false, not_false_eq_true, ne_eq] at hb8
                        all_goals (
                          refine W_skip ?_
                          refine blockQ_n ?_
                          refine thenQ_n ?_
                          refine W_regionE (c := 139) (c' := 141) (by kernel_rfl) rfl ?_
                          refine Runs_p rfl (Valid.add rfl rfl rfl (room64 (by first | omega | (simp only [Int.toNat_natCast, toNat_add, toNat_add1, List.length_append, List.length_cons, List.length_nil, List.length_replicate]; omega)) (by first | omega | (simp only [Int.toNat_natCast, toNat_add, toNat_add1, List.length_append, List.length_cons, List.length_nil, List.length_replicate]; omega)))) rfl rfl ?_ -- law.go:95 binOp
                          refine Runs_p rfl (Valid.movek (A := Is _) rfl rfl) rfl rfl ?_ -- law.go:95 move
                          refine Runs_nil ?_
                          refine LoopQ.next (i + 1) [] (by omega) (by omega) ⟨⟨(leq_is rfl rfl (by first | rfl)), trivial⟩, ⟨(leq_sl (Reads.sl rfl) rfl rfl rfl), (leq_sl (Reads.sl rfl) rfl rfl rfl), (leq_is rfl rfl rfl), (leq_is rfl rfl rfl), (leq_sl (Reads.sl rfl) rfl rfl rfl), (leq_is rfl rfl rfl), (leq_sl (Reads.sl rfl) rfl rfl rfl), (leq_sls rfl rfl), (leq_is rfl rfl rfl), (leq_is rfl rfl rfl), (leq_sl (Reads.sl rfl) rfl rfl rfl), (leq_is rfl rfl rfl), trivial⟩, trivial, trivial, rfl, ⟨supg rfl, trivial⟩, ⟨supg rfl, supg rfl, supg rfl, supg rfl, supg rfl, supg rfl, supg rfl, supg rfl, supg rfl, supg rfl, supg rfl, supg rfl, trivial⟩, trivial, trivial, rfl, rfl⟩
                          done)
                      done)
                  · try simp only [decide_eq_false_iff_not] at hb7
                    all_goals (
                      refine W_exit ?_
                      refine thenQ_e ?_
                      refine loopQ_e ?_
                      refine blockQ_x ?_
                      refine blockQ_n ?_
                      refine thenQ_n ?_
                      refine W_regionE (c := 101) (c' := 103) (by kernel_rfl) rfl ?_
                      refine Runs_p rfl (Valid.add rfl rfl rfl (room64 (by first | omega | (simp only [Int.toNat_natCast, toNat_add, toNat_add1, List.length_append, List.length_cons, List.length_nil, List.length_replicate]; omega)) (by first | omega | (simp only [Int.toNat_natCast, toNat_add, toNat_add1, List.length_append, List.length_cons, List.length_nil, List.length_replicate]; omega)))) rfl rfl ?_ -- law.go:77 binOp
                      refine Runs_p rfl (Valid.movek (A := Is _) rfl rfl) rfl rfl ?_ -- law.go:77 move
                      refine Runs_nil ?_
                      refine LoopQ.next (j + 1) [] (by omega) (by omega) ⟨⟨(leq_is rfl rfl (by first | rfl)), trivial⟩, ⟨(leq_sl (Reads.sl rfl) rfl rfl rfl), (leq_sl (Reads.sl rfl) rfl rfl rfl), (leq_is rfl rfl rfl), (leq_is rfl rfl rfl), (leq_sl (Reads.sl rfl) rfl rfl rfl), (leq_is rfl rfl rfl), (leq_sls rfl rfl), (leq_is rfl rfl rfl), trivial⟩, trivial, trivial, rfl, ⟨supg rfl, trivial⟩, ⟨supg rfl, supg rfl, supg rfl, supg rfl, supg rfl, supg rfl, supg rfl, supg rfl, trivial⟩, trivial, trivial, rfl, rfl⟩
                      done)
                  done)
              done)
          done)
      done)
  · try simp only [decide_eq_false_iff_not] at hb1
    all_goals (
      refine W_exit ?_
      refine thenQ_e ?_
      refine loopQ_e ?_
      refine blockQ_x ?_
      refine thenQ_n ?_
      refine W_seq ?_
      refine W_regionE (c := 42) (c' := 44) (by kernel_rfl) rfl ?_
      refine Runs_p rfl (Valid.movek (A := Is _) rfl rfl) rfl rfl ?_ -- law.go:103 move
      refine Runs_p rfl (Valid.assignk (A := Is _) rfl rfl) rfl rfl ?_ -- law.go:103 assign
      refine Runs_nil ?_
      refine thenQ_n ?_
      refine W_ret ?_
      refine finQ_r ?_
      refine ResOk.one rfl (RVal.is rfl rfl (by first | rfl | (exfalso; simp at hb2; done) | (exfalso; simp at hb3; done) | (exfalso; simp at hb4; done) | (exfalso; simp at hb5; done) | (exfalso; simp at hb6; done) | (exfalso; simp at hb7; done) | (exfalso; simp at hb8; done) | (exfalso; simp at hb9; done) | (trace_state; skip)))
      done)
end Pd
end Go.Proofs.Ytnomocicogbdpaa
