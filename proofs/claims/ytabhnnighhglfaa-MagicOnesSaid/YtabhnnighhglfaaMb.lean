/-
  WALKS of stage 2: what is found.
-/
import Derived.Test.YtabhnnighhglfaaRows
import Derived.Test.YtabhnnighhglfaaAby
import Derived.Test.YtabhnnighhglfaaBb
import Derived.Test.YtabhnnighhglfaaMa
namespace Go.Proofs.Ytabhnnighhglfaa
open Go.RowKit
namespace Mb
open Ab Bm Bt Bb Ma
theorem ag25 (w : World) : (isAgg 25).run Try.prog w = .ok false w := by kernel_rfl
theorem ag3 (w : World) : (isAgg 3).run Try.prog w = .ok false w := by kernel_rfl
theorem sz25 (w : World) : (sizeOf 25).run Try.prog w = .ok 1 w := by kernel_rfl
theorem sz3 (w : World) : (sizeOf 3).run Try.prog w = .ok 1 w := by kernel_rfl
theorem ti3 : TI Try.prog 3 1 8 := .mk' (z := (Value.int .i64 0)) (by kernel_rfl) rfl
theorem zv25 (w : World) : (zeroValue 25).run Try.prog w = .ok (Value.slice none 0 0) w := by kernel_rfl
theorem zv3 (w : World) : (zeroValue 3).run Try.prog w = .ok (Value.int .i64 0) w := by kernel_rfl
set_option maxRecDepth 100000 in
set_option maxHeartbeats 1000000 in
theorem places_s (s : ByteArray) (f m n : Int) :
    FPure Try.prog 23 [Is (.string s), Is (.int .i64 f), Is (.int .u64 m), Is (.int .i64 n)] (FnV 36 [] [Fz [.int .i64 f], Fz [.string s], Fz [.int .u64 m], Fz [.int .i64 n]]) := by
  refine FPure.of Try.func23 Try.ntmps23 rfl (by kernel_rfl) rfl rfl rfl ?_
  refine W_seq ?_
  refine W_regionE (c := 1) (c' := 6) (by kernel_rfl) rfl ?_
  refine Runs_w rfl (Valid.box rfl (One.is rfl rfl rfl)) rfl rfl ?_ -- magic.go:39 box
  refine Runs_w rfl (Valid.box rfl (One.is rfl rfl rfl)) rfl rfl ?_ -- magic.go:39 box
  refine Runs_w rfl (Valid.box rfl (One.is rfl rfl rfl)) rfl rfl ?_ -- magic.go:39 box
  refine Runs_w rfl (Valid.box rfl (One.is rfl rfl rfl)) rfl rfl ?_ -- magic.go:39 box
  refine Runs_p rfl (Valid.assignk (A := Is _) rfl rfl) rfl rfl ?_ -- magic.go:39 assign
  refine Runs_nil ?_
  refine thenQ_n ?_
  refine W_seq ?_
  refine W_regionE (c := 6) (c' := 8) (by kernel_rfl) rfl ?_
  refine Runs_p rfl (Valid.makefunc rfl) rfl rfl ?_ -- magic.go:40 makeFunc
  refine Runs_p rfl (Valid.assignk (A := FnV 36 [] [Ptr 16 0, Ptr 8 0, Ptr 24 0, Ptr 32 0]) rfl rfl) rfl rfl ?_ -- magic.go:40 assign
  refine Runs_nil ?_
  refine thenQ_n ?_
  refine W.ent ?_ (Ent.freezeF 8 16 (vs := [.int .i64 f]) (caps' := [Fz [.int .i64 f], Ptr 8 0, Ptr 24 0, Ptr 32 0]) rfl rfl ⟨.inr ⟨rfl, rfl⟩, .inl rfl, .inl rfl, .inl rfl, trivial⟩)
  refine W.ent ?_ (Ent.freezeF 8 8 (vs := [.string s]) (caps' := [Fz [.int .i64 f], Fz [.string s], Ptr 24 0, Ptr 32 0]) rfl rfl ⟨.inl rfl, .inr ⟨rfl, rfl⟩, .inl rfl, .inl rfl, trivial⟩)
  refine W.ent ?_ (Ent.freezeF 8 24 (vs := [.int .u64 m]) (caps' := [Fz [.int .i64 f], Fz [.string s], Fz [.int .u64 m], Ptr 32 0]) rfl rfl ⟨.inl rfl, .inl rfl, .inr ⟨rfl, rfl⟩, .inl rfl, trivial⟩)
  refine W.ent ?_ (Ent.freezeF 8 32 (vs := [.int .i64 n]) (caps' := [Fz [.int .i64 f], Fz [.string s], Fz [.int .u64 m], Fz [.int .i64 n]]) rfl rfl ⟨.inl rfl, .inl rfl, .inl rfl, .inr ⟨rfl, rfl⟩, trivial⟩)
  refine W_ret ?_
  refine finQ_r ?_
  refine ResOk.one rfl (RVal.tmp (fun _ _ _ h => h))

def findV (s : ByteArray) (f m n : Int) : Int := match plL s f m n (8 * s.size) with
  | [] => -1
  | a :: _ => (a : Int)
theorem plL_le (s : ByteArray) (f m n : Int) (K : Nat) : (plL s f m n K).length ≤ K := by
  have := List.length_filter_le (fun a : Nat => decide (f ≤ (a : Int)) && matV s a m n) (List.range K)
  rw [List.length_range] at this
  exact this
theorem take_1 {G : Type} (f : Nat → G) (l : List Nat) {k : Nat} (h : k < l.length) : (l.take k).map f ++ [f (l.getD k 0)] = (l.take (k + 1)).map f := by
  rw [List.take_succ_eq_append_getElem h, List.map_append, getD_lt _ _ _ h]; rfl
theorem find_nil {s : ByteArray} {f m n : Int} (h : ∀ j, j < (plL s f m n (8 * s.size)).length → (fun _ : Nat => false) j = true) : findV s f m n = -1 := by
  unfold findV
  cases hp : plL s f m n (8 * s.size) with
  | nil => rfl
  | cons a l => exact absurd (h 0 (by rw [hp]; simp)) (by decide)
theorem find_hd {s : ByteArray} {f m n : Int} {k : Nat} (hk : k < (plL s f m n (8 * s.size)).length) (h : ∀ j, j < k → (fun _ : Nat => false) j = true) : findV s f m n = (((plL s f m n (8 * s.size)).getD k 0 : Nat) : Int) := by
  have : k = 0 := Classical.byContradiction fun e => absurd (h 0 (by omega)) (by decide)
  subst this
  unfold findV
  cases hp : plL s f m n (8 * s.size) with
  | nil => rw [hp] at hk; cases hk
  | cons a l => rfl

set_option maxRecDepth 100000 in
set_option maxHeartbeats 1000000 in
theorem find_s (s : ByteArray) (f : Int) (hf : -9223372036854775808 ≤ f ∧ f ≤ 9223372036854775807) (m : Int) (hm : 0 ≤ m ∧ m < 18446744073709551616) (n : Int) (hn : -9223372036854775808 ≤ n ∧ n ≤ 9223372036854775807) (hs : s.size ≤ 1000000000000) :
    FPure Try.prog 16 [Is (.string s), Is (.int .i64 f), Is (.int .u64 m), Is (.int .i64 n)] (Is (.int .i64 (findV s f m n))) := by
  refine FPure.of Try.func16 Try.ntmps16 rfl (by kernel_rfl) rfl rfl rfl ?_
  refine W_seq ?_
  refine W_regionE (c := 1) (c' := 2) (by kernel_rfl) rfl ?_
  refine Runs_w rfl (Valid.alloc [(Value.int .i64 0)] rfl zv3 rfl) rfl rfl ?_ -- magic.go:21 alloc
  refine Runs_nil ?_
  refine thenQ_n ?_
  refine W_seq ?_
  refine W_seq ?_
  refine W_regionE (c := 2) (c' := 7) (by kernel_rfl) rfl ?_
  refine Runs_p rfl (Valid.movek (A := Is _) rfl rfl) rfl rfl ?_ -- magic.go:22 move
  refine Runs_p rfl (Valid.movek (A := Is _) rfl rfl) rfl rfl ?_ -- magic.go:22 move
  refine Runs_p rfl (Valid.movek (A := Is _) rfl rfl) rfl rfl ?_ -- magic.go:22 move
  refine Runs_p rfl (Valid.movek (A := Is _) rfl rfl) rfl rfl ?_ -- magic.go:22 move
  refine Runs_p rfl (Valid.call rfl (places_s _ _ _ _) ⟨argle rfl, argle rfl, argle rfl, argle rfl, trivial⟩) rfl rfl ?_ -- magic.go:22 call
  refine Runs_nil ?_
  refine thenQ_n ?_
  refine W_block ?_
  refine W_range (n := (plL s f m n (8 * s.size)).length) (vals := fun q => [Is (.int .i64 (((plL s f m n (8 * s.size)).getD q 0 : Nat) : Int))]) (go := fun _ => false) (jc := .ret) (h0 := [(1, .var 3 [Is _])]) (hin := fun k => [(1, .var 3 [Is (.int .i64 (match k with | 0 => 0 | j + 1 => (((plL s f m n (8 * s.size)).getD j 0 : Nat) : Int)))])]) (hin' := fun k => [(8, .var 3 [Is (.int .i64 (match k with | 0 => 0 | j + 1 => (((plL s f m n (8 * s.size)).getD j 0 : Nat) : Int)))])]) (fx := [(8, Ptr 1 0)]) [(1, 8)] [] rfl (capsOk_fz (capsOk_fz (capsOk_fz (capsOk_fz capsOk_nil)))) (pla_it s f hf m hm n hn (by omega)) (by kernel_rfl) (fun _ => rfl) (fun _ => valsOk_is [_]) (by kernel_rfl) ⟨(leq_ptr rfl rfl rfl), trivial⟩ (fun _ => by kernel_rfl) ⟨⟨_, rfl, .var ⟨(leq_is rfl rfl rfl), trivial⟩⟩, trivial⟩ (by kernel_rfl) (by kernel_rfl) (by kernel_rfl) ⟨hp_var rfl ⟨(leq_is rfl rfl (by first | rfl | (simp; done) | omega | (simp [toNat_add, toNat_add1, Nat.add_assoc]; done) | (simp [toNat_add, toNat_add1]; omega))), trivial⟩, trivial⟩ (by kernel_rfl) (by kernel_rfl) (fun _ => by kernel_rfl) (fun _ => by kernel_rfl) (fun _ => (hpup_cons (j := 8) rfl (cup_var (allup_cons (up_pure rfl) allup_nil)) hpup_nil)) (by kernel_rfl) (fun _ => by kernel_rfl) ?_ ?_ ?_
  · intro k hk1 hgo1
    refine W_regionE (c := 2) (c' := 3) (by kernel_rfl) rfl ?_
    refine Runs_p rfl (Valid.assignk (A := Is _) rfl rfl) rfl rfl ?_ -- magic.go:22 assign
    refine Runs_nil ?_
    refine ⟨rfl, ?_⟩
    refine W_block ?_
    refine W_seq ?_
    refine W_regionE (c := 3) (c' := 5) (by kernel_rfl) rfl ?_
    refine Runs_p rfl (Valid.movek (A := Is _) rfl rfl) rfl rfl ?_ -- magic.go:23 move
    refine Runs_op rfl (Valid.store rfl sz3 rfl rfl (Nat.le_of_ble_eq_true rfl) (One.is rfl rfl rfl)) rfl ?_ -- magic.go:23 store
    refine Runs_nil ?_
    refine thenQ_n ?_
    refine W_ret ?_
    refine blockQ_r ?_
    exact roundQ_r [] (by first | rfl | assumption) ⟨hp_var rfl ⟨(leq_is rfl rfl (by first | rfl | (simp; done) | omega | (simp [toNat_add, toNat_add1, Nat.add_assoc]; done) | (simp [toNat_add, toNat_add1]; omega))), trivial⟩, trivial⟩ rfl rfl
  · intro hall1
    refine blockQ_n ?_
    refine thenQ_n ?_
    refine W_seq ?_
    refine W_regionE (c := 8) (c' := 9) (by kernel_rfl) rfl ?_
    refine Runs_op rfl (Valid.store rfl sz3 rfl rfl (Nat.le_of_ble_eq_true rfl) (One.is rfl rfl rfl)) rfl ?_ -- magic.go:25 store
    refine Runs_nil ?_
    refine thenQ_n ?_
    refine W_ret ?_
    refine finQ_r ?_
    refine ResOk.one rfl (RVal.cell ag3 rfl rfl rfl (by first | exact argle (congrArg (fun z : Int => Is (Value.int .i64 z)) (find_nil hall1).symm) | exact argle (congrArg (fun z : Int => Is (Value.int .i64 z)) (find_hd hk1 hgo1).symm)))
  · intro k hk1 hgo1 hgk1
    refine W_ret ?_
    refine blockQ_r ?_
    refine thenQ_r ?_
    refine finQ_r ?_
    refine ResOk.one rfl (RVal.cell ag3 rfl rfl rfl (by first | exact argle (congrArg (fun z : Int => Is (Value.int .i64 z)) (find_nil hall1).symm) | exact argle (congrArg (fun z : Int => Is (Value.int .i64 z)) (find_hd hk1 hgo1).symm)))

set_option maxRecDepth 100000 in
set_option maxHeartbeats 1000000 in
theorem all_s (s : ByteArray) (m : Int) (hm : 0 ≤ m ∧ m < 18446744073709551616) (n : Int) (hn : -9223372036854775808 ≤ n ∧ n ≤ 9223372036854775807) (hs : s.size ≤ 1000000000000) :
    FPure Try.prog 12 [Is (.string s), Is (.int .u64 m), Is (.int .i64 n)] (Sl 1 (plL s 0 m n (8 * s.size)).length ((plL s 0 m n (8 * s.size)).map fun q : Nat => Value.int .i64 (q : Int))) := by
  refine FPure.of Try.func12 Try.ntmps12 rfl (by kernel_rfl) rfl rfl rfl ?_
  refine W_seq ?_
  refine W_regionE (c := 1) (c' := 2) (by kernel_rfl) rfl ?_
  refine Runs_p rfl (Valid.assignk (A := Is (.slice none 0 0)) rfl rfl) rfl rfl ?_ -- magic.go:29 assign
  refine Runs_nil ?_
  refine thenQ_n ?_
  refine W_seq ?_
  refine W_regionE (c := 2) (c' := 3) (by kernel_rfl) rfl ?_
  refine Runs_w rfl (Valid.alloc [(Value.slice none 0 0)] rfl zv25 rfl) rfl rfl ?_ -- magic.go:30 alloc
  refine Runs_nil ?_
  refine thenQ_n ?_
  refine W_seq ?_
  refine W_seq ?_
  refine W_regionE (c := 3) (c' := 7) (by kernel_rfl) rfl ?_
  refine Runs_p rfl (Valid.movek (A := Is _) rfl rfl) rfl rfl ?_ -- magic.go:31 move
  refine Runs_p rfl (Valid.movek (A := Is _) rfl rfl) rfl rfl ?_ -- magic.go:31 move
  refine Runs_p rfl (Valid.movek (A := Is _) rfl rfl) rfl rfl ?_ -- magic.go:31 move
  refine Runs_p rfl (Valid.call rfl (places_s _ _ _ _) ⟨argle rfl, argle rfl, argle rfl, argle rfl, trivial⟩) rfl rfl ?_ -- magic.go:31 call
  refine Runs_nil ?_
  refine thenQ_n ?_
  refine W_block ?_
  refine W.ent ?_ (Ent.ownnilat 16 0 3 1 rfl rfl)
  refine W_range (n := (plL s 0 m n (8 * s.size)).length) (vals := fun q => [Is (.int .i64 (((plL s 0 m n (8 * s.size)).getD q 0 : Nat) : Int))]) (go := fun _ => true) (jc := .ret) (h0 := [(1, .var 25 [Ab.Own 2 1 _ _]), (2, .row 3 1 _ _)]) (hin := fun k => [(1, .var 25 [Ab.Own 8 1 k (((plL s 0 m n (8 * s.size)).take k).map fun q : Nat => Value.int .i64 (q : Int))]), (8, .row 3 1 k (((plL s 0 m n (8 * s.size)).take k).map fun q : Nat => Value.int .i64 (q : Int)))]) (hin' := fun k => [(16, .var 25 [Ab.Own 64 1 k (((plL s 0 m n (8 * s.size)).take k).map fun q : Nat => Value.int .i64 (q : Int))]), (64, .row 3 1 k (((plL s 0 m n (8 * s.size)).take k).map fun q : Nat => Value.int .i64 (q : Int)))]) (fx := [(7, Ptr 1 0)]) [(1, 16), (2, 56)] [(8, 2)] rfl (capsOk_fz (capsOk_fz (capsOk_fz (capsOk_fz capsOk_nil)))) (pla_it s 0 (by decide) m hm n hn (by omega)) (by kernel_rfl) (fun _ => rfl) (fun _ => valsOk_is [_]) (by kernel_rfl) ⟨(leq_ptr rfl rfl rfl), trivial⟩ (fun _ => by kernel_rfl) ⟨⟨_, rfl, .var ⟨(leq_own rfl rfl rfl rfl rfl), trivial⟩⟩, ⟨_, rfl, .row rfl rfl⟩, trivial⟩ (by kernel_rfl) (by kernel_rfl) (by kernel_rfl) ⟨hp_var rfl ⟨(leq_own rfl rfl rfl (by first | rfl) (by first | rfl)), trivial⟩, hp_row rfl (by first | rfl) (by first | rfl), trivial⟩ (by kernel_rfl) (by kernel_rfl) (fun _ => by kernel_rfl) (fun _ => by kernel_rfl) (fun _ => (hpup_cons (j := 16) rfl (cup_var (allup_cons (up_own' (id' := 64) rfl) allup_nil)) (hpup_cons (j := 64) rfl cup_row hpup_nil))) (by kernel_rfl) (fun _ => by kernel_rfl) ?_ ?_ ?_
  · intro k hk1 hgo1
    have hpl := plL_le s 0 m n (8 * s.size)
    refine W_regionE (c := 2) (c' := 3) (by kernel_rfl) rfl ?_
    refine Runs_p rfl (Valid.assignk (A := Is _) rfl rfl) rfl rfl ?_ -- magic.go:31 assign
    refine Runs_nil ?_
    refine ⟨rfl, ?_⟩
    refine W_block ?_
    refine W_regionE (c := 3) (c' := 8) (by kernel_rfl) rfl ?_
    refine Runs_p rfl (Valid.load _ rfl ag25 rfl rfl rfl) rfl rfl ?_ -- magic.go:32 load
    refine Runs_p rfl (Valid.movek (A := Is _) rfl rfl) rfl rfl ?_ -- magic.go:32 move
    refine Runs_p rfl (Valid.lit (el := 3) [_] rfl rfl (fun _ => by kernel_rfl) rfl (by decide)) rfl rfl ?_ -- magic.go:32 buildSlice
    refine Runs_w rfl (Valid.app rfl Try.underlying25 ti3 (by decide) rfl rfl (Reads.sl rfl) (by first | exact one_map (fun _ => rfl) | exact one_cons rfl one_nil | exact one_app (one_map (fun _ => rfl)) (one_cons rfl one_nil) | exact one_app (one_map (fun _ => rfl)) (one_map (fun _ => rfl)) | exact one_rep rfl | exact one_app (one_rep rfl) (one_map (fun _ => rfl)) | (intro u hu; simp at hu; rcases hu with rfl | hu <;> first | rfl | (subst hu; rfl))) (by first | (simp only [maxLen]; omega) | (simp only [maxLen, Int.toNat_natCast, toNat_add, toNat_add1, List.length_append, List.length_cons, List.length_nil, List.length_replicate]; omega)) (by first | omega | (simp only [Int.toNat_natCast, toNat_add, toNat_add1, List.length_append, List.length_cons, List.length_nil, List.length_replicate]; omega))) rfl rfl ?_ -- magic.go:32 call
    refine Runs_op rfl (Valid.store rfl sz25 rfl rfl (Nat.le_of_ble_eq_true rfl) (One.sl (Reads.own rfl))) rfl ?_ -- magic.go:32 store
    refine Runs_nil ?_
    refine blockQ_n ?_
    exact roundQ_n [(8, 48)] (by first | rfl | assumption) ⟨hp_var rfl ⟨(leq_own rfl rfl rfl (by first | rfl | exact take_1 _ _ hk1 | omega) (by first | rfl | exact take_1 _ _ hk1 | omega)), trivial⟩, hp_row rfl (by first | rfl | exact take_1 _ _ hk1 | omega) (by first | rfl | exact take_1 _ _ hk1 | omega), trivial⟩ rfl rfl
  · intro hall1
    refine blockQ_n ?_
    refine thenQ_n ?_
    refine W_seq ?_
    refine W_regionE (c := 9) (c' := 11) (by kernel_rfl) rfl ?_
    refine Runs_p rfl (Valid.load _ rfl ag25 rfl rfl rfl) rfl rfl ?_ -- magic.go:34 load
    refine Runs_p rfl (Valid.assignk (A := Ab.Own 64 1 _ _) rfl rfl) rfl rfl ?_ -- magic.go:34 assign
    refine Runs_nil ?_
    refine thenQ_n ?_
    refine W_ret ?_
    refine finQ_r ?_
    refine ResOk.one rfl (RVal.sl (Reads.own rfl) rfl (rfl) (by rw [List.take_length]))
  · intro k hk1 hgo1 hgk1
    exact absurd hgk1 (by decide)
    
end Mb
end Go.Proofs.Ytabhnnighhglfaa
