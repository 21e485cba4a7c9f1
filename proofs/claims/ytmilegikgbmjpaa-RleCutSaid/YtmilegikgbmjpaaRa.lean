/-
  WALKS of stage 4: builders of texts; pieces.
-/
import Derived.Test.YtmilegikgbmjpaaRows
import Derived.Test.YtmilegikgbmjpaaRm
namespace Go.Proofs.Ytmilegikgbmjpaa
open Go.RowKit
namespace Ra
open Ab Rl Rl
theorem ag40 (w : World) : (isAgg 40).run Try.prog w = .ok false w := by kernel_rfl
theorem ag43 (w : World) : (isAgg 43).run Try.prog w = .ok false w := by kernel_rfl
theorem sz40 (w : World) : (sizeOf 40).run Try.prog w = .ok 1 w := by kernel_rfl
theorem sz43 (w : World) : (sizeOf 43).run Try.prog w = .ok 1 w := by kernel_rfl
theorem ti5 : TI Try.prog 5 1 1 := .mk' (z := (Value.int .u8 0)) (by kernel_rfl) rfl
theorem B_u8 {c : Int} (hc : 0 ≤ c ∧ c < 256) : B (u8 c) = .int .u8 c := by
  have : ((u8 c).toNat : Int) = c := by
    unfold u8
    rw [UInt8.toNat_ofNat', Nat.mod_eq_of_lt (by omega)]; omega
  unfold B; rw [this]
theorem u8_nat (b : UInt8) : u8 (b.toNat : Int) = b := by
  unfold u8; simp

set_option maxRecDepth 100000 in
set_option maxHeartbeats 1000000 in
theorem check_s (β : Bool) (l : List UInt8) :
    FMem Try.prog 31 [Ptr 1 0] [(1, .var 45 [PN (β) 1, Ab.Own 2 1 (l).length ((l).map B)]), (2, .row 5 1 (l).length ((l).map B))] (Is (.tuple #[])) [(1, .var 45 [Ptr 1 0, Ab.Own 2 1 (l).length ((l).map B)]), (2, .row 5 1 (l).length ((l).map B))] := by
  refine FMem.of Try.func31 Try.ntmps31 rfl (by kernel_rfl) rfl rfl rfl ?_
  refine W_seq ?_
  refine W_regionE (c := 1) (c' := 6) (by kernel_rfl) rfl ?_
  refine Runs_p rfl (Valid.movek (A := Ptr 1 0) rfl rfl) rfl rfl ?_ -- builder.go:33 move
  refine Runs_p rfl (Valid.nilcheck rfl rfl) rfl rfl ?_ -- builder.go:33 nilCheck
  refine Runs_p rfl (Valid.fieldaddr (off' := 0) rfl rfl (fun _ _ => by kernel_rfl)) rfl rfl ?_ -- builder.go:33 fieldAddr
  refine Runs_p rfl (Valid.load _ rfl ag43 rfl rfl rfl) rfl rfl ?_ -- builder.go:33 load
  refine Runs_p rfl (Valid.pneq rfl rfl rfl (fun _ _ => by kernel_rfl) (fun _ => by kernel_rfl)) rfl rfl ?_ -- builder.go:33 binOp
  refine Runs_nil ?_
  refine thenQ_n ?_
  refine W_cond _ rfl (fun hb1 => ?_) (fun hb1 => ?_)
  · try simp only [Bool.not_eq_true'] at hb1
    all_goals (
      refine W_regionE (c := 6) (c' := 14) (by kernel_rfl) rfl ?_
      refine Runs_p rfl (Valid.movek (A := Ptr 1 0) rfl rfl) rfl rfl ?_ -- builder.go:39 move
      refine Runs_p rfl (Valid.movek (A := Ptr 1 0) rfl rfl) rfl rfl ?_ -- builder.go:39 move
      refine Runs_p rfl (Valid.unsafeTo rfl rfl rfl (Nat.zero_lt_succ _) Try.underlying43 Try.underlying60 (by kernel_rfl)) rfl rfl ?_ -- builder.go:39 convert
      refine Runs_p rfl (Valid.noescape rfl Try.func34 rfl rfl rfl (by kernel_rfl) rfl) rfl rfl ?_ -- builder.go:39 call
      refine Runs_p rfl (Valid.unsafeFrom rfl rfl rfl Try.underlying60 Try.underlying43 (by kernel_rfl) (by kernel_rfl)) rfl rfl ?_ -- builder.go:39 convert
      refine Runs_p rfl (Valid.nilcheck rfl rfl) rfl rfl ?_ -- builder.go:39 nilCheck
      refine Runs_p rfl (Valid.fieldaddr (off' := 0) rfl rfl (fun _ _ => by kernel_rfl)) rfl rfl ?_ -- builder.go:39 fieldAddr
      refine Runs_op rfl (Valid.store rfl sz43 rfl rfl (Nat.le_of_ble_eq_true rfl) (One.ptr rfl)) rfl ?_ -- builder.go:39 store
      refine Runs_nil ?_
      refine finMQ_n ?_
      exact FinM.of [] (ResOk.none rfl (fun _ _ => rfl)) rfl ⟨hp_var rfl ⟨(leq_ptr rfl rfl rfl), (leq_own rfl rfl rfl (by first | rfl | (simp; done) | omega | (simp [toNat_add, toNat_add1, Nat.add_assoc]; done) | (simp [toNat_add, toNat_add1]; omega)) (by first | rfl | (simp; done) | omega | (simp [toNat_add, toNat_add1, Nat.add_assoc]; done) | (simp [toNat_add, toNat_add1]; omega))), trivial⟩, hp_row rfl (by first | rfl | (simp; done) | omega | (simp [toNat_add, toNat_add1, Nat.add_assoc]; done) | (simp [toNat_add, toNat_add1]; omega)) (by first | rfl | (simp; done) | omega | (simp [toNat_add, toNat_add1, Nat.add_assoc]; done) | (simp [toNat_add, toNat_add1]; omega)), trivial⟩ rfl rfl
      done)
  · try simp only [Bool.not_eq_false'] at hb1
    all_goals (
      refine W_seq ?_
      refine W_regionE (c := 6) (c' := 12) (by kernel_rfl) rfl ?_
      refine Runs_p rfl (Valid.movek (A := Ptr 1 0) rfl rfl) rfl rfl ?_ -- builder.go:40 move
      refine Runs_p rfl (Valid.nilcheck rfl rfl) rfl rfl ?_ -- builder.go:40 nilCheck
      refine Runs_p rfl (Valid.fieldaddr (off' := 0) rfl rfl (fun _ _ => by kernel_rfl)) rfl rfl ?_ -- builder.go:40 fieldAddr
      refine Runs_p rfl (Valid.load _ rfl ag43 rfl rfl rfl) rfl rfl ?_ -- builder.go:40 load
      refine Runs_p rfl (Valid.movek (A := Ptr 1 0) rfl rfl) rfl rfl ?_ -- builder.go:40 move
      refine Runs_p rfl (Valid.pnne rfl rfl (by simp_all) rfl Try.underlying43 (by kernel_rfl)) rfl rfl ?_ -- builder.go:40 binOp
      refine Runs_nil ?_
      refine thenQ_n ?_
      refine W_cond _ rfl (fun hb2 => ?_) (fun hb2 => ?_)
      · try simp only [Bool.false_eq_true] at hb2
        all_goals (
          exact absurd hb2 (by decide)
          
          done)
      · try simp only [] at hb2
        all_goals (
          refine W_skip ?_
          refine finMQ_n ?_
          exact FinM.of [] (ResOk.none rfl (fun _ _ => rfl)) rfl ⟨hp_var rfl ⟨(leq_ppn rfl rfl rfl (by simp_all)), (leq_own rfl rfl rfl (by first | rfl | (simp; done) | omega | (simp [toNat_add, toNat_add1, Nat.add_assoc]; done) | (simp [toNat_add, toNat_add1]; omega)) (by first | rfl | (simp; done) | omega | (simp [toNat_add, toNat_add1, Nat.add_assoc]; done) | (simp [toNat_add, toNat_add1]; omega))), trivial⟩, hp_row rfl (by first | rfl | (simp; done) | omega | (simp [toNat_add, toNat_add1, Nat.add_assoc]; done) | (simp [toNat_add, toNat_add1]; omega)) (by first | rfl | (simp; done) | omega | (simp [toNat_add, toNat_add1, Nat.add_assoc]; done) | (simp [toNat_add, toNat_add1]; omega)), trivial⟩ rfl rfl
          done)
      done)

set_option maxRecDepth 100000 in
set_option maxHeartbeats 1000000 in
theorem wb_s (β : Bool) (l : List UInt8) (c : Int) (hc : 0 ≤ c ∧ c < 256) (hl : l.length ≤ 1000000000000) :
    FMem Try.prog 22 [Ptr 1 0, Is (.int .u8 c)] [(1, .var 45 [PN (β) 1, Ab.Own 2 1 (l).length ((l).map B)]), (2, .row 5 1 (l).length ((l).map B))] (Is .nilIface) [(1, .var 45 [Ptr 1 0, Ab.Own 8 1 (l ++ [u8 c]).length ((l ++ [u8 c]).map B)]), (8, .row 5 1 (l ++ [u8 c]).length ((l ++ [u8 c]).map B))] := by
  refine FMem.of Try.func22 Try.ntmps22 rfl (by kernel_rfl) rfl rfl rfl ?_
  refine W_seq ?_
  refine W_regionE (c := 1) (c' := 2) (by kernel_rfl) rfl ?_
  refine Runs_p rfl (Valid.assignk (A := Is _) rfl rfl) rfl rfl ?_ -- builder.go:95 assign
  refine Runs_nil ?_
  refine thenQ_n ?_
  refine W_seq ?_
  refine W_regionE (c := 2) (c' := 4) (by kernel_rfl) rfl ?_
  refine Runs_p rfl (Valid.movek (A := Ptr 1 0) rfl rfl) rfl rfl ?_ -- builder.go:96 move
  refine Runs_w rfl (Valid.callm [(1, 1), (2, 2)] rfl (.inl ⟨rfl, rfl⟩) (check_s _ _) ⟨(leq_ptr rfl rfl rfl), trivial⟩ ⟨⟨_, rfl, .var ⟨(leq_pn rfl rfl rfl rfl), (leq_own rfl rfl rfl rfl rfl), trivial⟩⟩, ⟨_, rfl, .row rfl rfl⟩, trivial⟩ (up_pure rfl) (hpup_cons (j := 1) rfl (cup_var (allup_cons (up_ptr' (id' := 1) rfl) (allup_cons (up_own' (id' := 2) rfl) allup_nil))) (hpup_cons (j := 2) rfl cup_row hpup_nil)) (by kernel_rfl) (by kernel_rfl) (by kernel_rfl) (by kernel_rfl) (by kernel_rfl) (by kernel_rfl) (by kernel_rfl) (by kernel_rfl) (by kernel_rfl)) rfl rfl ?_ -- builder.go:96 call
  refine Runs_nil ?_
  refine thenQ_n ?_
  refine W_seq ?_
  refine W_regionE (c := 4) (c' := 15) (by kernel_rfl) rfl ?_
  refine Runs_p rfl (Valid.movek (A := Ptr 1 0) rfl rfl) rfl rfl ?_ -- builder.go:97 move
  refine Runs_p rfl (Valid.movek (A := Ptr 1 0) rfl rfl) rfl rfl ?_ -- builder.go:97 move
  refine Runs_p rfl (Valid.nilcheck rfl rfl) rfl rfl ?_ -- builder.go:97 nilCheck
  refine Runs_p rfl (Valid.fieldaddr (off' := 1) rfl rfl (fun _ _ => by kernel_rfl)) rfl rfl ?_ -- builder.go:97 fieldAddr
  refine Runs_p rfl (Valid.load _ rfl ag40 rfl rfl rfl) rfl rfl ?_ -- builder.go:97 load
  refine Runs_p rfl (Valid.movek (A := Is _) rfl rfl) rfl rfl ?_ -- builder.go:97 move
  refine Runs_p rfl (Valid.lit (el := 5) [_] rfl rfl (fun _ => by kernel_rfl) rfl (by decide)) rfl rfl ?_ -- builder.go:97 buildSlice
  refine Runs_w rfl (Valid.app rfl Try.underlying40 ti5 (by decide) rfl rfl (Reads.sl rfl) (by first | exact one_map (fun _ => rfl) | exact one_cons rfl one_nil | exact one_app (one_map (fun _ => rfl)) (one_cons rfl one_nil) | exact one_app (one_map (fun _ => rfl)) (one_map (fun _ => rfl)) | exact one_rep rfl | exact one_app (one_rep rfl) (one_map (fun _ => rfl)) | (intro u hu; simp at hu; rcases hu with rfl | hu <;> first | rfl | (subst hu; rfl))) (by first | (simp only [maxLen]; omega) | (simp only [maxLen, Int.toNat_natCast, toNat_add, toNat_add1, List.length_append, List.length_cons, List.length_nil, List.length_replicate]; omega)) (by first | omega | (simp only [Int.toNat_natCast, toNat_add, toNat_add1, List.length_append, List.length_cons, List.length_nil, List.length_replicate]; omega))) rfl rfl ?_ -- builder.go:97 call
  refine Runs_p rfl (Valid.nilcheck rfl rfl) rfl rfl ?_ -- builder.go:97 nilCheck
  refine Runs_p rfl (Valid.fieldaddr (off' := 1) rfl rfl (fun _ _ => by kernel_rfl)) rfl rfl ?_ -- builder.go:97 fieldAddr
  refine Runs_op rfl (Valid.store rfl sz40 rfl rfl (Nat.le_of_ble_eq_true rfl) (One.sl (Reads.own rfl))) rfl ?_ -- builder.go:97 store
  refine Runs_nil ?_
  refine thenQ_n ?_
  refine W_seq ?_
  refine W_regionE (c := 15) (c' := 16) (by kernel_rfl) rfl ?_
  refine Runs_p rfl (Valid.assignk (A := Is _) rfl rfl) rfl rfl ?_ -- builder.go:98 assign
  refine Runs_nil ?_
  refine thenQ_n ?_
  refine W_ret ?_
  refine finMQ_r ?_
  exact FinM.of [(8, 88)] (ResOk.one rfl (RVal.is rfl rfl (by first | rfl | (simp; done) | omega | (simp [toNat_add, toNat_add1, Nat.add_assoc]; done) | (simp [toNat_add, toNat_add1]; omega)))) rfl ⟨hp_var rfl ⟨(leq_ptr rfl rfl rfl), (leq_own rfl rfl rfl (by first | rfl | (simp []; done)) (by first | rfl | (simp [B_u8 hc]; done))), trivial⟩, hp_row rfl (by first | rfl | (simp []; done)) (by first | rfl | (simp [B_u8 hc]; done)), trivial⟩ rfl rfl

set_option maxRecDepth 100000 in
set_option maxHeartbeats 1000000 in
theorem bstr_s (β : Bool) (l : List UInt8) :
    FMem Try.prog 24 [Ptr 1 0] [(1, .var 45 [PN (β) 1, Ab.Own 2 1 (l).length ((l).map B)]), (2, .row 5 1 (l).length ((l).map B))] (Is (.string ⟨l.toArray⟩)) [] := by
  refine FMem.of Try.func24 Try.ntmps24 rfl (by kernel_rfl) rfl rfl rfl ?_
  refine W_seq ?_
  refine W_regionE (c := 1) (c' := 2) (by kernel_rfl) rfl ?_
  refine Runs_p rfl (Valid.assignk (A := Is _) rfl rfl) rfl rfl ?_ -- builder.go:46 assign
  refine Runs_nil ?_
  refine thenQ_n ?_
  refine W_seq ?_
  refine W_drawE (c := 2) (c' := 14) (by kernel_rfl) rfl ?_
  refine Runs_p rfl (Valid.movek (A := Ptr 1 0) rfl rfl) rfl rfl ?_ -- builder.go:47 move
  refine Runs_p rfl (Valid.nilcheck rfl rfl) rfl rfl ?_ -- builder.go:47 nilCheck
  refine Runs_p rfl (Valid.fieldaddr (off' := 1) rfl rfl (fun _ _ => by kernel_rfl)) rfl rfl ?_ -- builder.go:47 fieldAddr
  refine Runs_p rfl (Valid.load _ rfl ag40 rfl rfl rfl) rfl rfl ?_ -- builder.go:47 load
  refine Runs_p rfl (Valid.slicedata rfl Try.underlying59 rfl rfl) rfl rfl ?_ -- builder.go:47 call
  refine Runs_p rfl (Valid.movek (A := Ptr 1 0) rfl rfl) rfl rfl ?_ -- builder.go:47 move
  refine Runs_p rfl (Valid.nilcheck rfl rfl) rfl rfl ?_ -- builder.go:47 nilCheck
  refine Runs_p rfl (Valid.fieldaddr (off' := 1) rfl rfl (fun _ _ => by kernel_rfl)) rfl rfl ?_ -- builder.go:47 fieldAddr
  refine Runs_p rfl (Valid.load _ rfl ag40 rfl rfl rfl) rfl rfl ?_ -- builder.go:47 load
  refine Runs_p rfl (Valid.len rfl Try.underlying40 (Reads.own rfl)) rfl rfl ?_ -- builder.go:47 call
  refine Runs_w rfl (Valid.unsafestring rfl Try.underlying59 (by kernel_rfl) rfl rfl rfl) rfl rfl ?_ -- builder.go:47 call
  refine Runs_p rfl (Valid.assignk (A := Is _) rfl rfl) rfl rfl ?_ -- builder.go:47 assign
  refine Runs_nil ?_
  refine ⟨_, _, rfl, rfl, by kernel_rfl, ?_⟩
  refine thenQ_n ?_
  refine W_ret ?_
  refine finMQ_r ?_
  exact FinM.of [] (ResOk.one rfl (RVal.is rfl rfl (by first | rfl | (simp; done) | omega | (simp [toNat_add, toNat_add1, Nat.add_assoc]; done) | (simp [toNat_add, toNat_add1]; omega)))) rfl trivial rfl rfl

theorem replicate_snoc {α : Type} (k : Nat) (c : α) : List.replicate k c ++ [c] = List.replicate (k + 1) c := by rw [List.replicate_succ']

set_option maxRecDepth 100000 in
set_option maxHeartbeats 1000000 in
theorem lay_s (β : Bool) (l : List UInt8) (c n : Int) (hc : 0 ≤ c ∧ c < 256) (hn : 0 ≤ n) (hl : l.length + n ≤ 1000000000000) :
    FMem Try.prog 21 [Is (.int .u8 c), Is (.int .i64 n), Ptr 1 0] [(1, .var 45 [PN (β) 1, Ab.Own 2 1 (l).length ((l).map B)]), (2, .row 5 1 (l).length ((l).map B))] (Is (.tuple #[])) [(1, .var 45 [PN (β || decide (0 < n)) 1, Ab.Own 8 1 (l ++ List.replicate n.toNat (u8 c)).length ((l ++ List.replicate n.toNat (u8 c)).map B)]), (8, .row 5 1 (l ++ List.replicate n.toNat (u8 c)).length ((l ++ List.replicate n.toNat (u8 c)).map B))] := by
  refine FMem.of Try.func21 Try.ntmps21 rfl (by kernel_rfl) rfl rfl rfl ?_
  refine W_seq ?_
  refine W_regionE (c := 1) (c' := 3) (by kernel_rfl) rfl ?_
  refine Runs_p rfl (Valid.movek (A := Is _) rfl rfl) rfl rfl ?_ -- rle.go:21 move
  refine Runs_p rfl (Valid.movek (A := Is _) rfl rfl) rfl rfl ?_ -- rle.go:21 move
  refine Runs_nil ?_
  refine thenQ_n ?_
  refine W_block ?_
  refine W_loopx (G := Nat) (fun (i : Nat) => (i : Int) ≤ n) [(0, Is _), (2, Ptr 1 0), (5, Is _)] (fun (i : Nat) => [(6, Is (.int .i64 (i : Int)))]) [] (fun (i : Nat) => [(1, .var 45 [PN (β || decide (0 < i)) 1, Ab.Own 24 1 (l ++ List.replicate i (u8 c)).length ((l ++ List.replicate i (u8 c)).map B)]), (24, .row 5 1 (l ++ List.replicate i (u8 c)).length ((l ++ List.replicate i (u8 c)).map B))]) 4 (fun (i : Nat) => n.toNat - i) (0) [(24, 2)] (by first | trivial | omega | (simp; omega)) ⟨⟨(leq_is rfl rfl (by first | rfl | (simp; done))), trivial⟩, ⟨(leq_is rfl rfl rfl), (leq_ptr rfl rfl rfl), (leq_is rfl rfl rfl), trivial⟩, ⟨hp_var rfl ⟨(leq_pn rfl rfl rfl (by first | rfl | (simp; done))), (leq_own rfl rfl rfl (by first | rfl | (simp; done)) (by first | rfl | (simp; done))), trivial⟩, hp_row rfl (by first | rfl | (simp; done)) (by first | rfl | (simp; done)), trivial⟩, trivial, rfl, ⟨supg rfl, trivial⟩, ⟨supg rfl, supg rfl, supg rfl, trivial⟩, ⟨suph rfl rfl, suph rfl rfl, trivial⟩, trivial, rfl, rfl⟩ ?_
  intro i hI1
  refine W_seq ?_
  refine W_regionE (c := 4) (c' := 5) (by kernel_rfl) rfl ?_
  refine Runs_p rfl (Valid.lss rfl rfl rfl) rfl rfl ?_ -- rle.go:21 binOp
  refine Runs_nil ?_
  refine thenQ_n ?_
  refine W_seq ?_
  refine W_cond _ rfl (fun hb1 => ?_) (fun hb1 => ?_)
  · try simp only [decide_eq_true_eq] at hb1
    all_goals (
      refine W_skip ?_
      refine thenQ_n ?_
      refine W_seq ?_
      refine W_block ?_
      refine W_regionE (c := 5) (c' := 7) (by kernel_rfl) rfl ?_
      refine Runs_p rfl (Valid.movek (A := Is _) rfl rfl) rfl rfl ?_ -- rle.go:22 move
      refine Runs_w rfl (Valid.callm [(1, 1), (2, 24)] rfl (.inl ⟨rfl, rfl⟩) (wb_s _ _ _ hc (by simp; omega)) ⟨(leq_ptr rfl rfl rfl), (leq_is rfl rfl rfl), trivial⟩ ⟨⟨_, rfl, .var ⟨(leq_pn rfl rfl rfl rfl), (leq_own rfl rfl rfl rfl rfl), trivial⟩⟩, ⟨_, rfl, .row rfl rfl⟩, trivial⟩ (up_pure rfl) (hpup_cons (j := 1) rfl (cup_var (allup_cons (up_ptr' (id' := 1) rfl) (allup_cons (up_own' (id' := 48) rfl) allup_nil))) (hpup_cons (j := 48) rfl cup_row hpup_nil)) (by kernel_rfl) (by kernel_rfl) (by kernel_rfl) (by kernel_rfl) (by kernel_rfl) (by kernel_rfl) (by kernel_rfl) (by kernel_rfl) (by kernel_rfl)) rfl rfl ?_ -- rle.go:22 call
      refine Runs_nil ?_
      refine blockQ_n ?_
      refine thenQ_n ?_
      refine W_regionE (c := 7) (c' := 9) (by kernel_rfl) rfl ?_
      refine Runs_p rfl (Valid.add rfl rfl rfl (room64 (by first | omega | (simp only [Int.toNat_natCast, toNat_add, toNat_add1, List.length_append, List.length_cons, List.length_nil, List.length_replicate]; omega)) (by first | omega | (simp only [Int.toNat_natCast, toNat_add, toNat_add1, List.length_append, List.length_cons, List.length_nil, List.length_replicate]; omega)))) rfl rfl ?_ -- rle.go:21 binOp
      refine Runs_p rfl (Valid.movek (A := Is _) rfl rfl) rfl rfl ?_ -- rle.go:21 move
      refine Runs_nil ?_
      refine LoopQ.next (i + 1) [(24, 48)] (by first | trivial | omega | (simp; omega)) (by first | omega | (dsimp only; omega)) ⟨⟨(leq_is rfl rfl (by first | rfl | (simp; done) | (rw [← replicate_snoc]; simp) | (simp; omega) | (rw [show n.toNat = i by omega]) | (rw [show decide (0 < n) = decide (0 < i) by congr 1; exact propext ⟨fun _ => by omega, fun _ => by omega⟩]))), trivial⟩, ⟨(leq_is rfl rfl rfl), (leq_ptr rfl rfl rfl), (leq_is rfl rfl rfl), trivial⟩, ⟨hp_var rfl ⟨(leq_pnp rfl rfl rfl (by first | rfl | (simp; done) | (rw [← replicate_snoc]; simp) | (simp; omega) | (rw [show n.toNat = i by omega]) | (rw [show decide (0 < n) = decide (0 < i) by congr 1; exact propext ⟨fun _ => by omega, fun _ => by omega⟩]))), (leq_own rfl rfl rfl (by first | rfl | (simp; done) | (rw [← replicate_snoc]; simp) | (simp; omega) | (rw [show n.toNat = i by omega]) | (rw [show decide (0 < n) = decide (0 < i) by congr 1; exact propext ⟨fun _ => by omega, fun _ => by omega⟩])) (by first | rfl | (simp; done) | (rw [← replicate_snoc]; simp) | (simp; omega) | (rw [show n.toNat = i by omega]) | (rw [show decide (0 < n) = decide (0 < i) by congr 1; exact propext ⟨fun _ => by omega, fun _ => by omega⟩]))), trivial⟩, hp_row rfl (by first | rfl | (simp; done) | (rw [← replicate_snoc]; simp) | (simp; omega) | (rw [show n.toNat = i by omega]) | (rw [show decide (0 < n) = decide (0 < i) by congr 1; exact propext ⟨fun _ => by omega, fun _ => by omega⟩])) (by first | rfl | (simp; done) | (rw [← replicate_snoc]; simp) | (simp; omega) | (rw [show n.toNat = i by omega]) | (rw [show decide (0 < n) = decide (0 < i) by congr 1; exact propext ⟨fun _ => by omega, fun _ => by omega⟩])), trivial⟩, trivial, rfl, ⟨supg rfl, trivial⟩, ⟨supg rfl, supg rfl, supg rfl, trivial⟩, ⟨suph rfl rfl, suph rfl rfl, trivial⟩, trivial, rfl, rfl⟩
      done)
  · try simp only [decide_eq_false_iff_not] at hb1
    all_goals (
      refine W_exit ?_
      refine thenQ_e ?_
      refine loopQ_e ?_
      refine blockQ_x ?_
      refine finMQ_n ?_
      exact FinM.of [(8, 24)] (ResOk.none rfl (fun _ _ => rfl)) rfl ⟨hp_var rfl ⟨(leq_pn rfl rfl rfl (by first | rfl | (simp; done) | (rw [← replicate_snoc]; simp) | (simp; omega) | (rw [show n.toNat = i by omega]) | (rw [show decide (0 < n) = decide (0 < i) by congr 1; exact propext ⟨fun _ => by omega, fun _ => by omega⟩]))), (leq_own rfl rfl rfl (by first | rfl | (simp; done) | (rw [← replicate_snoc]; simp) | (simp; omega) | (rw [show n.toNat = i by omega]) | (rw [show decide (0 < n) = decide (0 < i) by congr 1; exact propext ⟨fun _ => by omega, fun _ => by omega⟩])) (by first | rfl | (simp; done) | (rw [← replicate_snoc]; simp) | (simp; omega) | (rw [show n.toNat = i by omega]) | (rw [show decide (0 < n) = decide (0 < i) by congr 1; exact propext ⟨fun _ => by omega, fun _ => by omega⟩]))), trivial⟩, hp_row rfl (by first | rfl | (simp; done) | (rw [← replicate_snoc]; simp) | (simp; omega) | (rw [show n.toNat = i by omega]) | (rw [show decide (0 < n) = decide (0 < i) by congr 1; exact propext ⟨fun _ => by omega, fun _ => by omega⟩])) (by first | rfl | (simp; done) | (rw [← replicate_snoc]; simp) | (simp; omega) | (rw [show n.toNat = i by omega]) | (rw [show decide (0 < n) = decide (0 < i) by congr 1; exact propext ⟨fun _ => by omega, fun _ => by omega⟩])), trivial⟩ rfl rfl
      done)

set_option maxRecDepth 100000 in
set_option maxHeartbeats 1000000 in
theorem ulay_s (l : List UInt8) (c n : Int) (hc : 0 ≤ c ∧ c < 256) (hn : 0 ≤ n) (hl : l.length + n ≤ 1000000000000) :
    FMem Try.prog 27 [Is (.int .u8 c), Is (.int .i64 n), Ptr 1 0] [(1, .var 40 [Ab.Own 2 1 (l).length ((l).map B)]), (2, .row 5 1 (l).length ((l).map B))] (Is (.tuple #[])) [(1, .var 40 [Ab.Own 8 1 (l ++ List.replicate n.toNat (u8 c)).length ((l ++ List.replicate n.toNat (u8 c)).map B)]), (8, .row 5 1 (l ++ List.replicate n.toNat (u8 c)).length ((l ++ List.replicate n.toNat (u8 c)).map B))] := by
  refine FMem.of Try.func27 Try.ntmps27 rfl (by kernel_rfl) rfl rfl rfl ?_
  refine W_seq ?_
  refine W_regionE (c := 1) (c' := 3) (by kernel_rfl) rfl ?_
  refine Runs_p rfl (Valid.movek (A := Is _) rfl rfl) rfl rfl ?_ -- rle.go:92 move
  refine Runs_p rfl (Valid.movek (A := Is _) rfl rfl) rfl rfl ?_ -- rle.go:92 move
  refine Runs_nil ?_
  refine thenQ_n ?_
  refine W_block ?_
  refine W_loopx (G := Nat) (fun (i : Nat) => (i : Int) ≤ n) [(0, Is _), (2, Ptr 1 0), (5, Is _)] (fun (i : Nat) => [(6, Is (.int .i64 (i : Int)))]) [] (fun (i : Nat) => [(1, .var 40 [Ab.Own 24 1 (l ++ List.replicate i (u8 c)).length ((l ++ List.replicate i (u8 c)).map B)]), (24, .row 5 1 (l ++ List.replicate i (u8 c)).length ((l ++ List.replicate i (u8 c)).map B))]) 4 (fun (i : Nat) => n.toNat - i) (0) [(24, 2)] (by first | trivial | omega | (simp; omega)) ⟨⟨(leq_is rfl rfl (by first | rfl | (simp; done))), trivial⟩, ⟨(leq_is rfl rfl rfl), (leq_ptr rfl rfl rfl), (leq_is rfl rfl rfl), trivial⟩, ⟨hp_var rfl ⟨(leq_own rfl rfl rfl (by first | rfl | (simp; done)) (by first | rfl | (simp; done))), trivial⟩, hp_row rfl (by first | rfl | (simp; done)) (by first | rfl | (simp; done)), trivial⟩, trivial, rfl, ⟨supg rfl, trivial⟩, ⟨supg rfl, supg rfl, supg rfl, trivial⟩, ⟨suph rfl rfl, suph rfl rfl, trivial⟩, trivial, rfl, rfl⟩ ?_
  intro i hI1
  refine W_seq ?_
  refine W_regionE (c := 4) (c' := 5) (by kernel_rfl) rfl ?_
  refine Runs_p rfl (Valid.lss rfl rfl rfl) rfl rfl ?_ -- rle.go:92 binOp
  refine Runs_nil ?_
  refine thenQ_n ?_
  refine W_seq ?_
  refine W_cond _ rfl (fun hb1 => ?_) (fun hb1 => ?_)
  · try simp only [decide_eq_true_eq] at hb1
    all_goals (
      refine W_skip ?_
      refine thenQ_n ?_
      refine W_seq ?_
      refine W_block ?_
      refine W_regionE (c := 5) (c' := 10) (by kernel_rfl) rfl ?_
      refine Runs_p rfl (Valid.load _ rfl ag40 rfl rfl rfl) rfl rfl ?_ -- rle.go:93 load
      refine Runs_p rfl (Valid.movek (A := Is _) rfl rfl) rfl rfl ?_ -- rle.go:93 move
      refine Runs_p rfl (Valid.lit (el := 5) [_] rfl rfl (fun _ => by kernel_rfl) rfl (by decide)) rfl rfl ?_ -- rle.go:93 buildSlice
      refine Runs_w rfl (Valid.app rfl Try.underlying40 ti5 (by decide) rfl rfl (Reads.sl rfl) (by first | exact one_map (fun _ => rfl) | exact one_cons rfl one_nil | exact one_app (one_map (fun _ => rfl)) (one_cons rfl one_nil) | exact one_app (one_map (fun _ => rfl)) (one_map (fun _ => rfl)) | exact one_rep rfl | exact one_app (one_rep rfl) (one_map (fun _ => rfl)) | (intro u hu; simp at hu; rcases hu with rfl | hu <;> first | rfl | (subst hu; rfl))) (by first | (simp only [maxLen]; omega) | (simp only [maxLen, List.length_append, List.length_replicate]; omega)) (by first | omega | (simp only [List.length_append, List.length_replicate]; omega))) rfl rfl ?_ -- rle.go:93 call
      refine Runs_op rfl (Valid.store rfl sz40 rfl rfl (Nat.le_of_ble_eq_true rfl) (One.sl (Reads.own rfl))) rfl ?_ -- rle.go:93 store
      refine Runs_nil ?_
      refine blockQ_n ?_
      refine thenQ_n ?_
      refine W_regionE (c := 10) (c' := 12) (by kernel_rfl) rfl ?_
      refine Runs_p rfl (Valid.add rfl rfl rfl (room64 (by first | omega | (simp only [Int.toNat_natCast, toNat_add, toNat_add1, List.length_append, List.length_cons, List.length_nil, List.length_replicate]; omega)) (by first | omega | (simp only [Int.toNat_natCast, toNat_add, toNat_add1, List.length_append, List.length_cons, List.length_nil, List.length_replicate]; omega)))) rfl rfl ?_ -- rle.go:92 binOp
      refine Runs_p rfl (Valid.movek (A := Is _) rfl rfl) rfl rfl ?_ -- rle.go:92 move
      refine Runs_nil ?_
      refine LoopQ.next (i + 1) [(24, 64)] (by first | trivial | omega | (simp; omega)) (by first | omega | (dsimp only; omega)) ⟨⟨(leq_is rfl rfl (by first | rfl | (rw [← replicate_snoc]; simp [B_u8 hc]; done) | (simp; omega))), trivial⟩, ⟨(leq_is rfl rfl rfl), (leq_ptr rfl rfl rfl), (leq_is rfl rfl rfl), trivial⟩, ⟨hp_var rfl ⟨(leq_own rfl rfl rfl (by first | rfl | (rw [← replicate_snoc]; simp []; done) | (simp; omega)) (by first | rfl | (rw [← replicate_snoc]; simp [B_u8 hc]; done) | (simp; omega))), trivial⟩, hp_row rfl (by first | rfl | (rw [← replicate_snoc]; simp []; done) | (simp; omega)) (by first | rfl | (rw [← replicate_snoc]; simp [B_u8 hc]; done) | (simp; omega)), trivial⟩, trivial, rfl, ⟨supg rfl, trivial⟩, ⟨supg rfl, supg rfl, supg rfl, trivial⟩, ⟨suph rfl rfl, suph rfl rfl, trivial⟩, trivial, rfl, rfl⟩
      done)
  · try simp only [decide_eq_false_iff_not] at hb1
    all_goals (
      refine W_exit ?_
      refine thenQ_e ?_
      refine loopQ_e ?_
      refine blockQ_x ?_
      refine finMQ_n ?_
      exact FinM.of [(8, 24)] (ResOk.none rfl (fun _ _ => rfl)) rfl ⟨hp_var rfl ⟨(leq_own rfl rfl rfl (by first | rfl | (rw [show n.toNat = i by omega])) (by first | rfl | (rw [show n.toNat = i by omega]))), trivial⟩, hp_row rfl (by first | rfl | (rw [show n.toNat = i by omega])) (by first | rfl | (rw [show n.toNat = i by omega])), trivial⟩ rfl rfl
      done)

set_option maxRecDepth 100000 in
set_option maxHeartbeats 1000000 in
theorem packed_s (n : Int) (h0 : 0 ≤ n) :
    FPure Try.prog 25 [Is (.int .i64 n)] (Is (.int .i64 (pkd n.toNat : Int))) := by
  refine FPure.of Try.func25 Try.ntmps25 rfl (by kernel_rfl) rfl rfl rfl ?_
  refine W_seq ?_
  refine W_regionE (c := 1) (c' := 2) (by kernel_rfl) rfl ?_
  refine Runs_p rfl (Valid.assignk (A := Is _) rfl rfl) rfl rfl ?_ -- rle.go:58 assign
  refine Runs_nil ?_
  refine thenQ_n ?_
  refine W_seq ?_
  refine W_seq ?_
  refine W_regionE (c := 2) (c' := 4) (by kernel_rfl) rfl ?_
  refine Runs_p rfl (Valid.movek (A := Is _) rfl rfl) rfl rfl ?_ -- rle.go:59 move
  refine Runs_p rfl (Valid.lss rfl rfl rfl) rfl rfl ?_ -- rle.go:59 binOp
  refine Runs_nil ?_
  refine thenQ_n ?_
  refine W_cond _ rfl (fun hb1 => ?_) (fun hb1 => ?_)
  · try simp only [decide_eq_true_eq] at hb1
    all_goals (
      refine W_seq ?_
      refine W_regionE (c := 4) (c' := 6) (by kernel_rfl) rfl ?_
      refine Runs_p rfl (Valid.movek (A := Is _) rfl rfl) rfl rfl ?_ -- rle.go:60 move
      refine Runs_p rfl (Valid.assignk (A := Is _) rfl rfl) rfl rfl ?_ -- rle.go:60 assign
      refine Runs_nil ?_
      refine thenQ_n ?_
      refine W_ret ?_
      refine thenQ_r ?_
      refine finQ_r ?_
      refine ResOk.one rfl (RVal.is rfl rfl (by first | exact congrArg (Value.int .i64) (by unfold pkd; rw [if_pos (by omega)]; omega) | exact congrArg (Value.int .i64) (by unfold pkd; rw [if_neg (by omega)]; omega) | (unfold pkd; rw [if_pos (by omega)]; omega) | (unfold pkd; rw [if_neg (by omega)]; rfl)))
      done)
  · try simp only [decide_eq_false_iff_not] at hb1
    all_goals (
      refine W_skip ?_
      refine thenQ_n ?_
      refine W_seq ?_
      refine W_regionE (c := 4) (c' := 5) (by kernel_rfl) rfl ?_
      refine Runs_p rfl (Valid.assignk (A := Is _) rfl rfl) rfl rfl ?_ -- rle.go:62 assign
      refine Runs_nil ?_
      refine thenQ_n ?_
      refine W_ret ?_
      refine finQ_r ?_
      refine ResOk.one rfl (RVal.is rfl rfl (by first | exact congrArg (Value.int .i64) (by unfold pkd; rw [if_pos (by omega)]; omega) | exact congrArg (Value.int .i64) (by unfold pkd; rw [if_neg (by omega)]; omega) | (unfold pkd; rw [if_pos (by omega)]; omega) | (unfold pkd; rw [if_neg (by omega)]; rfl)))
      done)

set_option maxRecDepth 100000 in
set_option maxHeartbeats 1000000 in
theorem pieces_s (s : ByteArray) :
    FPure Try.prog 23 [Is (.string s)] (FnV 32 [] [Fz [.string s]]) := by
  refine FPure.of Try.func23 Try.ntmps23 rfl (by kernel_rfl) rfl rfl rfl ?_
  refine W_seq ?_
  refine W_regionE (c := 1) (c' := 3) (by kernel_rfl) rfl ?_
  refine Runs_w rfl (Valid.box rfl (One.is rfl rfl rfl)) rfl rfl ?_ -- rle.go:66 box
  refine Runs_p rfl (Valid.assignk (A := Is _) rfl rfl) rfl rfl ?_ -- rle.go:66 assign
  refine Runs_nil ?_
  refine thenQ_n ?_
  refine W_seq ?_
  refine W_regionE (c := 3) (c' := 5) (by kernel_rfl) rfl ?_
  refine Runs_p rfl (Valid.makefunc rfl) rfl rfl ?_ -- rle.go:67 makeFunc
  refine Runs_p rfl (Valid.assignk (A := FnV 32 [] [Ptr 8 0]) rfl rfl) rfl rfl ?_ -- rle.go:67 assign
  refine Runs_nil ?_
  refine thenQ_n ?_
  refine W.ent ?_ (Ent.freezeF 2 8 (vs := [.string s]) (caps' := [Fz [.string s]]) rfl rfl ⟨.inr ⟨rfl, rfl⟩, trivial⟩)
  refine W_ret ?_
  refine finQ_r ?_
  refine ResOk.one rfl (RVal.tmp (fun _ _ _ h => h))

set_option maxRecDepth 100000 in
set_option maxHeartbeats 1000000 in
theorem repeats_s (s : ByteArray) :
    FPure Try.prog 28 [Is (.string s)] (FnV 33 [] [Fz [.string s]]) := by
  refine FPure.of Try.func28 Try.ntmps28 rfl (by kernel_rfl) rfl rfl rfl ?_
  refine W_seq ?_
  refine W_regionE (c := 1) (c' := 3) (by kernel_rfl) rfl ?_
  refine Runs_w rfl (Valid.box rfl (One.is rfl rfl rfl)) rfl rfl ?_ -- rle.go:117 box
  refine Runs_p rfl (Valid.assignk (A := Is _) rfl rfl) rfl rfl ?_ -- rle.go:117 assign
  refine Runs_nil ?_
  refine thenQ_n ?_
  refine W_seq ?_
  refine W_regionE (c := 3) (c' := 5) (by kernel_rfl) rfl ?_
  refine Runs_p rfl (Valid.makefunc rfl) rfl rfl ?_ -- rle.go:118 makeFunc
  refine Runs_p rfl (Valid.assignk (A := FnV 33 [] [Ptr 8 0]) rfl rfl) rfl rfl ?_ -- rle.go:118 assign
  refine Runs_nil ?_
  refine thenQ_n ?_
  refine W.ent ?_ (Ent.freezeF 2 8 (vs := [.string s]) (caps' := [Fz [.string s]]) rfl rfl ⟨.inr ⟨rfl, rfl⟩, trivial⟩)
  refine W_ret ?_
  refine finQ_r ?_
  refine ResOk.one rfl (RVal.tmp (fun _ _ _ h => h))
end Ra
end Go.Proofs.Ytmilegikgbmjpaa
