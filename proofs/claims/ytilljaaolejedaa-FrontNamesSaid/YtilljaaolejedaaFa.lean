/-
  WALKS of stage 5: a byte comes to the front.
-/
import Derived.Test.YtilljaaolejedaaRows
import Derived.Test.YtilljaaolejedaaAbq
namespace Go.Proofs.Ytilljaaolejedaa
open Go.RowKit
namespace Fa
open Ab
theorem ag22 (w : World) : (isAgg 22).run Try.prog w = .ok false w := by kernel_rfl
theorem ag47 (w : World) : (isAgg 47).run Try.prog w = .ok false w := by kernel_rfl
theorem ag5 (w : World) : (isAgg 5).run Try.prog w = .ok false w := by kernel_rfl
theorem si5 : (Try.prog.info? 5).map (·.size) = some 1 := by kernel_rfl
theorem sz22 (w : World) : (sizeOf 22).run Try.prog w = .ok 1 w := by kernel_rfl
theorem sz5 (w : World) : (sizeOf 5).run Try.prog w = .ok 1 w := by kernel_rfl
theorem ti3 : TI Try.prog 3 1 8 := .mk' (z := (Value.int .i64 0)) (by kernel_rfl) rfl
/-- the byte at a place comes to the front -/
def mtf (l : List UInt8) (at_ : Nat) : List UInt8 := l.getD at_ 0 :: (l.take at_ ++ l.drop (at_ + 1))
theorem mtf_len (l : List UInt8) (k : Nat) (h : k < l.length) : (mtf l k).length = l.length := by simp [mtf]; omega
theorem mtf_cut (l : List UInt8) (k n : Nat) (h : k < l.length) (hn : n = k) : (l.take 1 ++ (l.drop 0).take n ++ l.drop (1 + n)).set 0 (l.getD k 0) = mtf l k := by
  subst hn
  cases l with
  | nil => simp at h
  | cons a l => simp [mtf, Nat.add_comm 1 n]

set_option maxRecDepth 100000 in
set_option maxHeartbeats 1000000 in
theorem ixb_s (l : List UInt8) (c : UInt8) :
    FMem Try.prog 31 [Buf 1 l.length, Is (.int .u8 (c.toNat : Int))] [(1, .buf 5 (l.map B))] (Is (.int .i64 (Lib.indexByte l c))) [(1, .buf 5 (l.map B))] := by
  refine FMem.of Try.func31 Try.ntmps31 rfl (by kernel_rfl) rfl rfl rfl ?_
  refine W_seq ?_
  refine W_regionE (c := 1) (c' := 2) (by kernel_rfl) rfl ?_
  refine Runs_p rfl (Valid.assignk (A := Is _) rfl rfl) rfl rfl ?_ -- bytes.go:98 assign
  refine Runs_nil ?_
  refine thenQ_n ?_
  refine W_seq ?_
  refine W_regionE (c := 2) (c' := 6) (by kernel_rfl) rfl ?_
  refine Runs_p rfl (Valid.movek (A := Buf 1 _) rfl rfl) rfl rfl ?_ -- bytes.go:99 move
  refine Runs_p rfl (Valid.movek (A := Is _) rfl rfl) rfl rfl ?_ -- bytes.go:99 move
  refine Runs_p rfl (Valid.findB rfl Try.func32 rfl rfl rfl (by kernel_rfl) rfl rfl rfl) rfl rfl ?_ -- bytes.go:99 call
  refine Runs_p rfl (Valid.assignk (A := Is _) rfl rfl) rfl rfl ?_ -- bytes.go:99 assign
  refine Runs_nil ?_
  refine thenQ_n ?_
  refine W_ret ?_
  refine finMQ_r ?_
  exact FinM.of [] (ResOk.one rfl (RVal.is rfl rfl (rfl))) rfl ⟨hp_buf rfl (by first | rfl | (simp; done) | omega | (simp [toNat_add, toNat_add1, Nat.add_assoc]; done) | (simp [toNat_add, toNat_add1]; omega)), trivial⟩ rfl rfl

set_option maxRecDepth 100000 in
set_option maxHeartbeats 1000000 in
theorem find_s (l : List UInt8) (c : UInt8) :
    FMem Try.prog 30 [Buf 1 l.length, Is (.int .u8 (c.toNat : Int))] [(1, .buf 5 (l.map B))] (Is (.int .i64 (Lib.indexByte l c))) [(1, .buf 5 (l.map B))] := by
  refine FMem.of Try.func30 Try.ntmps30 rfl (by kernel_rfl) rfl rfl rfl ?_
  refine W_seq ?_
  refine W_regionE (c := 1) (c' := 2) (by kernel_rfl) rfl ?_
  refine Runs_p rfl (Valid.assignk (A := Is _) rfl rfl) rfl rfl ?_ -- front.go:22 assign
  refine Runs_nil ?_
  refine thenQ_n ?_
  refine W_seq ?_
  refine W_regionE (c := 2) (c' := 6) (by kernel_rfl) rfl ?_
  refine Runs_p rfl (Valid.movek (A := Buf 1 _) rfl rfl) rfl rfl ?_ -- front.go:22 move
  refine Runs_p rfl (Valid.movek (A := Is _) rfl rfl) rfl rfl ?_ -- front.go:22 move
  refine Runs_w rfl (Valid.callm [(1, 1)] rfl (.inl ⟨rfl, rfl⟩) (ixb_s _ _) ⟨(leq_buf rfl rfl rfl (by first | rfl | omega)), (leq_is rfl rfl rfl), trivial⟩ ⟨⟨_, rfl, .buf rfl⟩, trivial⟩ (up_pure rfl) (hpup_cons (j := 1) rfl cup_buf hpup_nil) (by kernel_rfl) (by kernel_rfl) (by kernel_rfl) (by kernel_rfl) (by kernel_rfl) (by kernel_rfl) (by kernel_rfl) (by kernel_rfl) (by kernel_rfl)) rfl rfl ?_ -- front.go:22 call
  refine Runs_p rfl (Valid.assignk (A := Is _) rfl rfl) rfl rfl ?_ -- front.go:22 assign
  refine Runs_nil ?_
  refine thenQ_n ?_
  refine W_ret ?_
  refine finMQ_r ?_
  exact FinM.of [] (ResOk.one rfl (RVal.is rfl rfl (rfl))) rfl ⟨hp_buf rfl (by first | rfl | (simp; done) | omega | (simp [toNat_add, toNat_add1, Nat.add_assoc]; done) | (simp [toNat_add, toNat_add1]; omega)), trivial⟩ rfl rfl

set_option maxRecDepth 100000 in
set_option maxHeartbeats 1000000 in
theorem bring_s (l : List UInt8) (i : Int) (h0 : 0 ≤ i) (hk : i < l.length) (hl : l.length ≤ 1000000000) :
    FMem Try.prog 29 [Buf 1 l.length, Is (.int .i64 i)] [(1, .buf 5 (l.map B))] (Is (.int .u8 ((l.getD i.toNat 0).toNat : Int))) [(1, .buf 5 ((mtf l i.toNat).map B))] := by
  refine FMem.of Try.func29 Try.ntmps29 rfl (by kernel_rfl) rfl rfl rfl ?_
  refine W_seq ?_
  refine W_regionE (c := 1) (c' := 2) (by kernel_rfl) rfl ?_
  refine Runs_p rfl (Valid.assignk (A := Is _) rfl rfl) rfl rfl ?_ -- front.go:14 assign
  refine Runs_nil ?_
  refine thenQ_n ?_
  refine W_seq ?_
  refine W_regionE (c := 2) (c' := 7) (by kernel_rfl) rfl ?_
  refine Runs_p rfl (Valid.movek (A := Buf 1 _) rfl rfl) rfl rfl ?_ -- front.go:15 move
  refine Runs_p rfl (Valid.movek (A := Is _) rfl rfl) rfl rfl ?_ -- front.go:15 move
  refine Runs_p rfl (Valid.idxB rfl Try.underlying47 sz5 rfl rfl (by first | omega | (simp only [Int.toNat_natCast, toNat_add, toNat_add1, List.length_append, List.length_cons, List.length_nil, List.length_replicate]; omega))) rfl rfl ?_ -- front.go:15 indexAddr
  refine Runs_p rfl (Valid.loadB 0 rfl ag5 rfl rfl (by first | omega | (simp only [Int.toNat_natCast, toNat_add, toNat_add1, List.length_append, List.length_cons, List.length_nil, List.length_replicate]; omega))) rfl rfl ?_ -- front.go:15 load
  refine Runs_p rfl (Valid.assignk (A := Is _) rfl rfl) rfl rfl ?_ -- front.go:15 assign
  refine Runs_nil ?_
  refine thenQ_n ?_
  refine W_seq ?_
  refine W_drawE (c := 7) (c' := 15) (by kernel_rfl) rfl ?_
  refine Runs_p rfl (Valid.movek (A := Buf 1 _) rfl rfl) rfl rfl ?_ -- front.go:16 move
  refine Runs_p rfl (Valid.movek (A := Is _) rfl rfl) rfl rfl ?_ -- front.go:16 move
  refine Runs_p rfl (Valid.add rfl rfl rfl (room64 (by first | omega | (simp only [Int.toNat_natCast, toNat_add, toNat_add1, List.length_append, List.length_cons, List.length_nil, List.length_replicate]; omega)) (by first | omega | (simp only [Int.toNat_natCast, toNat_add, toNat_add1, List.length_append, List.length_cons, List.length_nil, List.length_replicate]; omega)))) rfl rfl ?_ -- front.go:16 binOp
  refine Runs_p rfl (Valid.cutB rfl Try.underlying47 sz5 rfl rfl rfl (by first | omega | (simp only [Int.toNat_natCast, toNat_add, toNat_add1, List.length_append, List.length_cons, List.length_nil, List.length_replicate]; omega))) rfl rfl ?_ -- front.go:16 slice
  refine Runs_p rfl (Valid.movek (A := Buf 1 _) rfl rfl) rfl rfl ?_ -- front.go:16 move
  refine Runs_p rfl (Valid.movek (A := Is _) rfl rfl) rfl rfl ?_ -- front.go:16 move
  refine Runs_p rfl (Valid.cutBto rfl Try.underlying47 sz5 rfl rfl (by first | omega | (simp only [Int.toNat_natCast, toNat_add, toNat_add1, List.length_append, List.length_cons, List.length_nil, List.length_replicate]; omega))) rfl rfl ?_ -- front.go:16 slice
  refine Runs_w rfl (Valid.copyB1 rfl Try.underlying47 si5 rfl rfl rfl (by first | omega | (simp only [Int.toNat_natCast, toNat_add, toNat_add1, List.length_append, List.length_cons, List.length_nil, List.length_replicate]; omega)) (by first | omega | (simp only [Int.toNat_natCast, toNat_add, toNat_add1, List.length_append, List.length_cons, List.length_nil, List.length_replicate]; omega)) (by first | omega | (simp only [Int.toNat_natCast, toNat_add, toNat_add1, List.length_append, List.length_cons, List.length_nil, List.length_replicate]; omega)) (fun _ => rfl)) rfl rfl ?_ -- front.go:16 call
  refine Runs_nil ?_
  refine ⟨_, _, rfl, rfl, by kernel_rfl, ?_⟩
  refine thenQ_n ?_
  refine W_seq ?_
  refine W_regionE (c := 15) (c' := 19) (by kernel_rfl) rfl ?_
  refine Runs_p rfl (Valid.movek (A := Buf 1 _) rfl rfl) rfl rfl ?_ -- front.go:17 move
  refine Runs_p rfl (Valid.movek (A := Is _) rfl rfl) rfl rfl ?_ -- front.go:17 move
  refine Runs_p rfl (Valid.idxB rfl Try.underlying47 sz5 rfl rfl (by first | omega | (simp only [Int.toNat_natCast, toNat_add, toNat_add1, List.length_append, List.length_cons, List.length_nil, List.length_replicate]; omega))) rfl rfl ?_ -- front.go:17 indexAddr
  refine Runs_op rfl (Valid.storeB _ rfl sz5 rfl rfl (by simp; omega) rfl (One.is rfl rfl rfl)) rfl ?_ -- front.go:17 store
  refine Runs_nil ?_
  refine thenQ_n ?_
  refine W_seq ?_
  refine W_regionE (c := 19) (c' := 21) (by kernel_rfl) rfl ?_
  refine Runs_p rfl (Valid.movek (A := Is _) rfl rfl) rfl rfl ?_ -- front.go:18 move
  refine Runs_p rfl (Valid.assignk (A := Is _) rfl rfl) rfl rfl ?_ -- front.go:18 assign
  refine Runs_nil ?_
  refine thenQ_n ?_
  refine W_ret ?_
  refine finMQ_r ?_
  exact FinM.of [] (ResOk.one rfl (RVal.is rfl rfl (rfl))) rfl ⟨hp_buf rfl (by first | rfl | exact congrArg (List.map B) (mtf_cut l i.toNat _ (by omega) (by omega)) | (simp; omega)), trivial⟩ rfl rfl

/-- the alphabet, and what is told, behind so many bytes -/
def idx (l : List UInt8) (c : UInt8) : Int := Lib.indexByte l c
def frL (l : List UInt8) (s : ByteArray) : Nat → List UInt8
  | 0 => l
  | k + 1 => mtf (frL l s k) (idx (frL l s k) (bat s k)).toNat
  termination_by k => k
def plL (l : List UInt8) (s : ByteArray) : Nat → List Int
  | 0 => []
  | k + 1 => plL l s k ++ [idx (frL l s k) (bat s k)]
  termination_by k => k
theorem idx_lt (l : List UInt8) (c : UInt8) : idx l c < l.length := by
  unfold idx
  induction l with
  | nil => show (-1 : Int) < 0; decide
  | cons b l ih =>
    unfold Lib.indexByte
    simp only [List.length_cons]
    split
    · omega
    · split <;> omega
theorem idx_ge (l : List UInt8) (c : UInt8) : -1 ≤ idx l c := Lib.indexByte_ge l c
def okF (l : List UInt8) (s : ByteArray) : Prop := ∀ k, k < s.size → 0 ≤ idx (frL l s k) (bat s k)
instance (l : List UInt8) (s : ByteArray) : Decidable (okF l s) := inferInstanceAs (Decidable (∀ k, k < s.size → _))
theorem frL_0 (l : List UInt8) (s : ByteArray) : frL l s 0 = l := by rw [frL]
theorem frL_1 (l : List UInt8) (s : ByteArray) (k : Nat) : mtf (frL l s k) (Lib.indexByte (frL l s k) (bat s k)).toNat = frL l s (k + 1) := by rw [frL]; rfl
theorem plL_0 (l : List UInt8) (s : ByteArray) : plL l s 0 = [] := by rw [plL]
theorem plL_1 (l : List UInt8) (s : ByteArray) (k : Nat) : plL l s k ++ [Lib.indexByte (frL l s k) (bat s k)] = plL l s (k + 1) := by rw [plL]; rfl
theorem plL_1m (l : List UInt8) (s : ByteArray) (k : Nat) : (plL l s k).map I64 ++ [I64 (Lib.indexByte (frL l s k) (bat s k))] = (plL l s (k + 1)).map I64 := by rw [← plL_1]; simp
theorem plL_len (l : List UInt8) (s : ByteArray) : ∀ k, (plL l s k).length = k
  | 0 => by rw [plL_0]; rfl
  | k + 1 => by rw [plL, List.length_append, plL_len l s k]; rfl
theorem mtf_len2 (l : List UInt8) (k : Nat) (_h : l ≠ []) (hk : k < l.length) : (mtf l k).length = l.length := mtf_len l k hk
theorem frL_len (l : List UInt8) (s : ByteArray) : ∀ k, (∀ j, j < k → 0 ≤ idx (frL l s j) (bat s j)) → (frL l s k).length = l.length
  | 0, _ => by rw [frL_0]
  | k + 1, h => by
    have ih := frL_len l s k (fun j hj => h j (by omega))
    have h1 := h k (by omega); have h2 := idx_lt (frL l s k) (bat s k)
    rw [frL, mtf_len _ _ (by omega), ih]

set_option maxRecDepth 100000 in
set_option maxHeartbeats 1000000 in
theorem rfront_ok (l : List UInt8) (s : ByteArray) (hl : l.length ≤ 1000000000) (hs : s.size ≤ 1000000000) (hok : okF l s) :
    FMem Try.prog 28 [Ptr 1 0, Is (.string s)] [(1, .var 49 [Buf 2 l.length, Own 3 1 0 [], Is (.slice none 0 0)]), (2, .buf 5 (l.map B)), (3, .row 3 1 0 [])] (Is (.bool true)) [(1, .var 49 [Buf 2 l.length, Own 11 1 s.size ((plL l s s.size).map I64), Is (.slice none 0 0)]), (2, .buf 5 ((frL l s s.size).map B)), (11, .row 3 1 s.size ((plL l s s.size).map I64))] := by
  refine FMem.of Try.func28 Try.ntmps28 rfl (by kernel_rfl) rfl rfl rfl ?_
  refine W_seq ?_
  refine W_regionE (c := 1) (c' := 2) (by kernel_rfl) rfl ?_
  refine Runs_p rfl (Valid.assignk (A := Is _) rfl rfl) rfl rfl ?_ -- front.go:34 assign
  refine Runs_nil ?_
  refine thenQ_n ?_
  refine W_seq ?_
  refine W_seq ?_
  refine W_regionE (c := 2) (c' := 5) (by kernel_rfl) rfl ?_
  refine Runs_p rfl (Valid.movek (A := Is _) rfl rfl) rfl rfl ?_ -- front.go:35 move
  refine Runs_p rfl (Valid.slen rfl Try.underlying9 rfl) rfl rfl ?_ -- front.go:35 call
  refine Runs_p rfl (Valid.movek (A := Is _) rfl rfl) rfl rfl ?_ -- front.go:35 move
  refine Runs_nil ?_
  refine thenQ_n ?_
  refine W_block ?_
  refine W_loopx (G := Nat) (fun (k : Nat) => k ≤ s.size ∧ ∀ j, j < k → 0 ≤ idx (frL l s j) (bat s j)) [(0, Ptr 1 0), (1, Is _), (8, Is _)] (fun (k : Nat) => [(9, Is (.int .i64 (k : Int)))]) [] (fun (k : Nat) => [(1, .var 49 [Buf 2 l.length, Own 40 1 k ((plL l s k).map I64), Is (.slice none 0 0)]), (2, .buf 5 ((frL l s k).map (B))), (40, .row 3 1 k ((plL l s k).map I64))]) 6 (fun (k : Nat) => s.size - k) (0) [(40, 3)] (⟨by omega, fun j hj => by omega⟩) ⟨⟨(leq_is rfl rfl (by first | rfl | (rw [plL_0]; rfl) | (rw [frL_0]))), trivial⟩, ⟨(leq_ptr rfl rfl rfl), (leq_is rfl rfl rfl), (leq_is rfl rfl rfl), trivial⟩, ⟨hp_var rfl ⟨(leq_buf rfl rfl rfl (by first | rfl | (rw [plL_0]; rfl) | (rw [frL_0]))), (leq_own rfl rfl rfl (by first | rfl | (rw [plL_0]; rfl) | (rw [frL_0])) (by first | rfl | (rw [plL_0]; rfl) | (rw [frL_0]))), (leq_is rfl rfl (by first | rfl | (rw [plL_0]; rfl) | (rw [frL_0]))), trivial⟩, hp_buf rfl (by first | rfl | (rw [plL_0]; rfl) | (rw [frL_0])), hp_row rfl (by first | rfl | (rw [plL_0]; rfl) | (rw [frL_0])) (by first | rfl | (rw [plL_0]; rfl) | (rw [frL_0])), trivial⟩, trivial, rfl, ⟨supg rfl, trivial⟩, ⟨supg rfl, supg rfl, supg rfl, trivial⟩, ⟨suph rfl rfl, suph rfl rfl, suph rfl rfl, trivial⟩, trivial, rfl, rfl⟩ ?_
  intro k hI1
  obtain ⟨hk1, hk2⟩ := hI1
  have hfl := frL_len l s k hk2
  have hil := idx_lt (frL l s k) (bat s k)
  unfold idx at hil
  refine W_seq ?_
  refine W_regionE (c := 6) (c' := 7) (by kernel_rfl) rfl ?_
  refine Runs_p rfl (Valid.lss rfl rfl rfl) rfl rfl ?_ -- front.go:35 binOp
  refine Runs_nil ?_
  refine thenQ_n ?_
  refine W_seq ?_
  refine W_cond _ rfl (fun hb1 => ?_) (fun hb1 => ?_)
  · try simp only [decide_eq_true_eq] at hb1
    all_goals (
      refine W_skip ?_
      refine thenQ_n ?_
      refine W_seq ?_
      refine W_block ?_
      refine W_seq ?_
      refine W_regionE (c := 7) (c' := 9) (by kernel_rfl) rfl ?_
      refine Runs_p rfl (Valid.movek (A := Is _) rfl rfl) rfl rfl ?_ -- front.go:35 move
      refine Runs_p rfl (Valid.assignk (A := Is _) rfl rfl) rfl rfl ?_ -- front.go:35 assign
      refine Runs_nil ?_
      refine thenQ_n ?_
      refine W_seq ?_
      refine W_drawE (c := 9) (c' := 18) (by kernel_rfl) rfl ?_
      refine Runs_p rfl (Valid.movek (A := Ptr 1 0) rfl rfl) rfl rfl ?_ -- front.go:36 move
      refine Runs_p rfl (Valid.nilcheck rfl rfl) rfl rfl ?_ -- front.go:36 nilCheck
      refine Runs_p rfl (Valid.fieldaddr (off' := 0) rfl rfl (fun _ _ => by kernel_rfl)) rfl rfl ?_ -- front.go:36 fieldAddr
      refine Runs_p rfl (Valid.load _ rfl ag47 rfl rfl rfl) rfl rfl ?_ -- front.go:36 load
      refine Runs_p rfl (Valid.movek (A := Is _) rfl rfl) rfl rfl ?_ -- front.go:36 move
      refine Runs_p rfl (Valid.movek (A := Is _) rfl rfl) rfl rfl ?_ -- front.go:36 move
      refine Runs_p rfl (Valid.sindex rfl Try.underlying9 rfl rfl (by first | omega | (simp only [Int.toNat_natCast, toNat_add, toNat_add1, List.length_append, List.length_cons, List.length_nil, List.length_replicate]; omega))) rfl rfl ?_ -- front.go:36 index
      refine Runs_w rfl (Valid.callm [(1, 2)] rfl (.inl ⟨rfl, rfl⟩) (find_s _ _) ⟨(leq_buf rfl rfl rfl (by first | rfl | omega)), (leq_is rfl rfl rfl), trivial⟩ ⟨⟨_, rfl, .buf rfl⟩, trivial⟩ (up_pure rfl) (hpup_cons (j := 2) rfl cup_buf hpup_nil) (by kernel_rfl) (by kernel_rfl) (by kernel_rfl) (by kernel_rfl) (by kernel_rfl) (by kernel_rfl) (by kernel_rfl) (by kernel_rfl) (by kernel_rfl)) rfl rfl ?_ -- front.go:36 call
      refine Runs_p rfl (Valid.assignk (A := Is _) rfl rfl) rfl rfl ?_ -- front.go:36 assign
      refine Runs_nil ?_
      refine ⟨_, _, rfl, rfl, by kernel_rfl, ?_⟩
      refine thenQ_n ?_
      refine W_seq ?_
      refine W_seq ?_
      refine W_regionE (c := 18) (c' := 20) (by kernel_rfl) rfl ?_
      refine Runs_p rfl (Valid.movek (A := Is _) rfl rfl) rfl rfl ?_ -- front.go:37 move
      refine Runs_p rfl (Valid.lss rfl rfl rfl) rfl rfl ?_ -- front.go:37 binOp
      refine Runs_nil ?_
      refine thenQ_n ?_
      refine W_cond _ rfl (fun hb2 => ?_) (fun hb2 => ?_)
      · try simp only [decide_eq_true_eq] at hb2
        all_goals (
          exfalso
          have h1 := hok k (by omega)
          unfold idx at h1
          omega
          
          done)
      · try simp only [decide_eq_false_iff_not] at hb2
        all_goals (
          refine W_skip ?_
          refine thenQ_n ?_
          refine W_seq ?_
          refine W_regionE (c := 20) (c' := 31) (by kernel_rfl) rfl ?_
          refine Runs_p rfl (Valid.movek (A := Ptr 1 0) rfl rfl) rfl rfl ?_ -- front.go:40 move
          refine Runs_p rfl (Valid.movek (A := Ptr 1 0) rfl rfl) rfl rfl ?_ -- front.go:40 move
          refine Runs_p rfl (Valid.nilcheck rfl rfl) rfl rfl ?_ -- front.go:40 nilCheck
          refine Runs_p rfl (Valid.fieldaddr (off' := 1) rfl rfl (fun _ _ => by kernel_rfl)) rfl rfl ?_ -- front.go:40 fieldAddr
          refine Runs_p rfl (Valid.load _ rfl ag22 rfl rfl rfl) rfl rfl ?_ -- front.go:40 load
          refine Runs_p rfl (Valid.movek (A := Is _) rfl rfl) rfl rfl ?_ -- front.go:40 move
          refine Runs_p rfl (Valid.lit (el := 3) [_] rfl rfl (fun _ => by kernel_rfl) rfl (by decide)) rfl rfl ?_ -- front.go:40 buildSlice
          refine Runs_w rfl (Valid.app rfl Try.underlying22 ti3 (by decide) rfl rfl (Reads.sl rfl) (by first | exact one_map (fun _ => rfl) | exact one_cons rfl one_nil | exact one_app (one_map (fun _ => rfl)) (one_cons rfl one_nil) | exact one_app (one_map (fun _ => rfl)) (one_map (fun _ => rfl)) | exact one_rep rfl | exact one_app (one_rep rfl) (one_map (fun _ => rfl)) | (intro u hu; simp at hu; rcases hu with rfl | hu <;> first | rfl | (subst hu; rfl))) (by first | (simp only [maxLen]; omega) | (simp only [maxLen, Int.toNat_natCast, toNat_add, toNat_add1, List.length_append, List.length_cons, List.length_nil, List.length_replicate]; omega)) (by first | omega | (simp only [Int.toNat_natCast, toNat_add, toNat_add1, List.length_append, List.length_cons, List.length_nil, List.length_replicate]; omega))) rfl rfl ?_ -- front.go:40 call
          refine Runs_p rfl (Valid.nilcheck rfl rfl) rfl rfl ?_ -- front.go:40 nilCheck
          refine Runs_p rfl (Valid.fieldaddr (off' := 1) rfl rfl (fun _ _ => by kernel_rfl)) rfl rfl ?_ -- front.go:40 fieldAddr
          refine Runs_op rfl (Valid.store rfl sz22 rfl rfl (Nat.le_of_ble_eq_true rfl) (One.sl (Reads.own rfl))) rfl ?_ -- front.go:40 store
          refine Runs_nil ?_
          refine thenQ_n ?_
          refine W_regionE (c := 31) (c' := 37) (by kernel_rfl) rfl ?_
          refine Runs_p rfl (Valid.movek (A := Ptr 1 0) rfl rfl) rfl rfl ?_ -- front.go:41 move
          refine Runs_p rfl (Valid.nilcheck rfl rfl) rfl rfl ?_ -- front.go:41 nilCheck
          refine Runs_p rfl (Valid.fieldaddr (off' := 0) rfl rfl (fun _ _ => by kernel_rfl)) rfl rfl ?_ -- front.go:41 fieldAddr
          refine Runs_p rfl (Valid.load _ rfl ag47 rfl rfl rfl) rfl rfl ?_ -- front.go:41 load
          refine Runs_p rfl (Valid.movek (A := Is _) rfl rfl) rfl rfl ?_ -- front.go:41 move
          refine Runs_w rfl (Valid.callm [(1, 2)] rfl (.inl ⟨rfl, rfl⟩) (bring_s _ _ (by omega) (by omega) (by omega)) ⟨(leq_buf rfl rfl rfl (by first | rfl | omega)), (leq_is rfl rfl rfl), trivial⟩ ⟨⟨_, rfl, .buf rfl⟩, trivial⟩ (up_pure rfl) (hpup_cons (j := 2) rfl cup_buf hpup_nil) (by kernel_rfl) (by kernel_rfl) (by kernel_rfl) (by kernel_rfl) (by kernel_rfl) (by kernel_rfl) (by kernel_rfl) (by kernel_rfl) (by kernel_rfl)) rfl rfl ?_ -- front.go:41 call
          refine Runs_nil ?_
          refine blockQ_n ?_
          refine thenQ_n ?_
          refine W_regionE (c := 37) (c' := 39) (by kernel_rfl) rfl ?_
          refine Runs_p rfl (Valid.add rfl rfl rfl (room64 (by first | omega | (simp only [Int.toNat_natCast, toNat_add, toNat_add1, List.length_append, List.length_cons, List.length_nil, List.length_replicate]; omega)) (by first | omega | (simp only [Int.toNat_natCast, toNat_add, toNat_add1, List.length_append, List.length_cons, List.length_nil, List.length_replicate]; omega)))) rfl rfl ?_ -- front.go:35 binOp
          refine Runs_p rfl (Valid.movek (A := Is _) rfl rfl) rfl rfl ?_ -- front.go:35 move
          refine Runs_nil ?_
          refine LoopQ.next (k + 1) [(40, 216)] (⟨by omega, fun j hj => hok j (by omega)⟩) (by first | omega | (dsimp only; omega)) ⟨⟨(leq_is rfl rfl (by first | rfl | exact plL_1m _ _ _ | exact congrArg (List.map B) (frL_1 _ _ _))), trivial⟩, ⟨(leq_ptr rfl rfl rfl), (leq_is rfl rfl rfl), (leq_is rfl rfl rfl), trivial⟩, ⟨hp_var rfl ⟨(leq_buf rfl rfl rfl (by first | rfl | exact plL_1m _ _ _ | exact congrArg (List.map B) (frL_1 _ _ _))), (leq_own rfl rfl rfl (by first | rfl | exact plL_1m _ _ _ | exact congrArg (List.map B) (frL_1 _ _ _)) (by first | rfl | exact plL_1m _ _ _ | exact congrArg (List.map B) (frL_1 _ _ _))), (leq_is rfl rfl (by first | rfl | exact plL_1m _ _ _ | exact congrArg (List.map B) (frL_1 _ _ _))), trivial⟩, hp_buf rfl (by first | rfl | exact plL_1m _ _ _ | exact congrArg (List.map B) (frL_1 _ _ _)), hp_row rfl (by first | rfl | exact plL_1m _ _ _ | exact congrArg (List.map B) (frL_1 _ _ _)) (by first | rfl | exact plL_1m _ _ _ | exact congrArg (List.map B) (frL_1 _ _ _)), trivial⟩, trivial, rfl, ⟨supg rfl, trivial⟩, ⟨supg rfl, supg rfl, supg rfl, trivial⟩, ⟨suph rfl rfl, suph rfl rfl, suph rfl rfl, trivial⟩, trivial, rfl, rfl⟩
          done)
      done)
  · try simp only [decide_eq_false_iff_not] at hb1
    all_goals (
      refine W_exit ?_
      refine thenQ_e ?_
      refine loopQ_e ?_
      refine blockQ_x ?_
      refine thenQ_n ?_
      refine W_seq ?_
      refine W_regionE (c := 7) (c' := 8) (by kernel_rfl) rfl ?_
      refine Runs_p rfl (Valid.assignk (A := Is _) rfl rfl) rfl rfl ?_ -- front.go:43 assign
      refine Runs_nil ?_
      refine thenQ_n ?_
      refine W_ret ?_
      refine finMQ_r ?_
      exact FinM.of [(11, 40)] (ResOk.one rfl (RVal.is rfl rfl (rfl))) rfl ⟨hp_var rfl ⟨(leq_buf rfl rfl rfl (by first | rfl | (rw [show k = s.size by omega]; done) | omega)), (leq_own rfl rfl rfl (by first | rfl | (rw [show k = s.size by omega]; done) | omega) (by first | rfl | (rw [show k = s.size by omega]; done) | omega)), (leq_is rfl rfl (by first | rfl | (rw [show k = s.size by omega]; done) | omega)), trivial⟩, hp_buf rfl (by first | rfl | (rw [show k = s.size by omega]; done) | omega), hp_row rfl (by first | rfl | (rw [show k = s.size by omega]; done) | omega) (by first | rfl | (rw [show k = s.size by omega]; done) | omega), trivial⟩ rfl rfl
      done)

set_option maxRecDepth 100000 in
set_option maxHeartbeats 1000000 in
theorem rfront_no (l : List UInt8) (s : ByteArray) (hl : l.length ≤ 1000000000) (hs : s.size ≤ 1000000000) (hok : ¬ okF l s) :
    FMem Try.prog 28 [Ptr 1 0, Is (.string s)] [(1, .var 49 [Buf 2 l.length, Own 3 1 0 [], Is (.slice none 0 0)]), (2, .buf 5 (l.map B)), (3, .row 3 1 0 [])] (Is (.bool false)) [] := by
  refine FMem.of Try.func28 Try.ntmps28 rfl (by kernel_rfl) rfl rfl rfl ?_
  refine W_seq ?_
  refine W_regionE (c := 1) (c' := 2) (by kernel_rfl) rfl ?_
  refine Runs_p rfl (Valid.assignk (A := Is _) rfl rfl) rfl rfl ?_ -- front.go:34 assign
  refine Runs_nil ?_
  refine thenQ_n ?_
  refine W_seq ?_
  refine W_seq ?_
  refine W_regionE (c := 2) (c' := 5) (by kernel_rfl) rfl ?_
  refine Runs_p rfl (Valid.movek (A := Is _) rfl rfl) rfl rfl ?_ -- front.go:35 move
  refine Runs_p rfl (Valid.slen rfl Try.underlying9 rfl) rfl rfl ?_ -- front.go:35 call
  refine Runs_p rfl (Valid.movek (A := Is _) rfl rfl) rfl rfl ?_ -- front.go:35 move
  refine Runs_nil ?_
  refine thenQ_n ?_
  refine W_block ?_
  refine W_loopx (G := Nat) (fun (k : Nat) => k ≤ s.size ∧ ∀ j, j < k → 0 ≤ idx (frL l s j) (bat s j)) [(0, Ptr 1 0), (1, Is _), (8, Is _)] (fun (k : Nat) => [(9, Is (.int .i64 (k : Int)))]) [] (fun (k : Nat) => [(1, .var 49 [Buf 2 l.length, Own 40 1 k ((plL l s k).map I64), Is (.slice none 0 0)]), (2, .buf 5 ((frL l s k).map (B))), (40, .row 3 1 k ((plL l s k).map I64))]) 6 (fun (k : Nat) => s.size - k) (0) [(40, 3)] (⟨by omega, fun j hj => by omega⟩) ⟨⟨(leq_is rfl rfl (by first | rfl | (rw [plL_0]; rfl) | (rw [frL_0]))), trivial⟩, ⟨(leq_ptr rfl rfl rfl), (leq_is rfl rfl rfl), (leq_is rfl rfl rfl), trivial⟩, ⟨hp_var rfl ⟨(leq_buf rfl rfl rfl (by first | rfl | (rw [plL_0]; rfl) | (rw [frL_0]))), (leq_own rfl rfl rfl (by first | rfl | (rw [plL_0]; rfl) | (rw [frL_0])) (by first | rfl | (rw [plL_0]; rfl) | (rw [frL_0]))), (leq_is rfl rfl (by first | rfl | (rw [plL_0]; rfl) | (rw [frL_0]))), trivial⟩, hp_buf rfl (by first | rfl | (rw [plL_0]; rfl) | (rw [frL_0])), hp_row rfl (by first | rfl | (rw [plL_0]; rfl) | (rw [frL_0])) (by first | rfl | (rw [plL_0]; rfl) | (rw [frL_0])), trivial⟩, trivial, rfl, ⟨supg rfl, trivial⟩, ⟨supg rfl, supg rfl, supg rfl, trivial⟩, ⟨suph rfl rfl, suph rfl rfl, suph rfl rfl, trivial⟩, trivial, rfl, rfl⟩ ?_
  intro k hI1
  obtain ⟨hk1, hk2⟩ := hI1
  have hfl := frL_len l s k hk2
  have hil := idx_lt (frL l s k) (bat s k)
  unfold idx at hil
  refine W_seq ?_
  refine W_regionE (c := 6) (c' := 7) (by kernel_rfl) rfl ?_
  refine Runs_p rfl (Valid.lss rfl rfl rfl) rfl rfl ?_ -- front.go:35 binOp
  refine Runs_nil ?_
  refine thenQ_n ?_
  refine W_seq ?_
  refine W_cond _ rfl (fun hb1 => ?_) (fun hb1 => ?_)
  · try simp only [decide_eq_true_eq] at hb1
    all_goals (
      refine W_skip ?_
      refine thenQ_n ?_
      refine W_seq ?_
      refine W_block ?_
      refine W_seq ?_
      refine W_regionE (c := 7) (c' := 9) (by kernel_rfl) rfl ?_
      refine Runs_p rfl (Valid.movek (A := Is _) rfl rfl) rfl rfl ?_ -- front.go:35 move
      refine Runs_p rfl (Valid.assignk (A := Is _) rfl rfl) rfl rfl ?_ -- front.go:35 assign
      refine Runs_nil ?_
      refine thenQ_n ?_
      refine W_seq ?_
      refine W_drawE (c := 9) (c' := 18) (by kernel_rfl) rfl ?_
      refine Runs_p rfl (Valid.movek (A := Ptr 1 0) rfl rfl) rfl rfl ?_ -- front.go:36 move
      refine Runs_p rfl (Valid.nilcheck rfl rfl) rfl rfl ?_ -- front.go:36 nilCheck
      refine Runs_p rfl (Valid.fieldaddr (off' := 0) rfl rfl (fun _ _ => by kernel_rfl)) rfl rfl ?_ -- front.go:36 fieldAddr
      refine Runs_p rfl (Valid.load _ rfl ag47 rfl rfl rfl) rfl rfl ?_ -- front.go:36 load
      refine Runs_p rfl (Valid.movek (A := Is _) rfl rfl) rfl rfl ?_ -- front.go:36 move
      refine Runs_p rfl (Valid.movek (A := Is _) rfl rfl) rfl rfl ?_ -- front.go:36 move
      refine Runs_p rfl (Valid.sindex rfl Try.underlying9 rfl rfl (by first | omega | (simp only [Int.toNat_natCast, toNat_add, toNat_add1, List.length_append, List.length_cons, List.length_nil, List.length_replicate]; omega))) rfl rfl ?_ -- front.go:36 index
      refine Runs_w rfl (Valid.callm [(1, 2)] rfl (.inl ⟨rfl, rfl⟩) (find_s _ _) ⟨(leq_buf rfl rfl rfl (by first | rfl | omega)), (leq_is rfl rfl rfl), trivial⟩ ⟨⟨_, rfl, .buf rfl⟩, trivial⟩ (up_pure rfl) (hpup_cons (j := 2) rfl cup_buf hpup_nil) (by kernel_rfl) (by kernel_rfl) (by kernel_rfl) (by kernel_rfl) (by kernel_rfl) (by kernel_rfl) (by kernel_rfl) (by kernel_rfl) (by kernel_rfl)) rfl rfl ?_ -- front.go:36 call
      refine Runs_p rfl (Valid.assignk (A := Is _) rfl rfl) rfl rfl ?_ -- front.go:36 assign
      refine Runs_nil ?_
      refine ⟨_, _, rfl, rfl, by kernel_rfl, ?_⟩
      refine thenQ_n ?_
      refine W_seq ?_
      refine W_seq ?_
      refine W_regionE (c := 18) (c' := 20) (by kernel_rfl) rfl ?_
      refine Runs_p rfl (Valid.movek (A := Is _) rfl rfl) rfl rfl ?_ -- front.go:37 move
      refine Runs_p rfl (Valid.lss rfl rfl rfl) rfl rfl ?_ -- front.go:37 binOp
      refine Runs_nil ?_
      refine thenQ_n ?_
      refine W_cond _ rfl (fun hb2 => ?_) (fun hb2 => ?_)
      · try simp only [decide_eq_true_eq] at hb2
        all_goals (
          refine W_seq ?_
          refine W_regionE (c := 20) (c' := 21) (by kernel_rfl) rfl ?_
          refine Runs_p rfl (Valid.assignk (A := Is _) rfl rfl) rfl rfl ?_ -- front.go:38 assign
          refine Runs_nil ?_
          refine thenQ_n ?_
          refine W_ret ?_
          refine thenQ_r ?_
          refine blockQ_r ?_
          refine thenQ_r ?_
          refine loopQ_r ?_
          refine blockQ_r ?_
          refine thenQ_r ?_
          refine finMQ_r ?_
          exact FinM.of [] (ResOk.one rfl (RVal.is rfl rfl (rfl))) rfl trivial rfl rfl
          done)
      · try simp only [decide_eq_false_iff_not] at hb2
        all_goals (
          refine W_skip ?_
          refine thenQ_n ?_
          refine W_seq ?_
          refine W_regionE (c := 20) (c' := 31) (by kernel_rfl) rfl ?_
          refine Runs_p rfl (Valid.movek (A := Ptr 1 0) rfl rfl) rfl rfl ?_ -- front.go:40 move
          refine Runs_p rfl (Valid.movek (A := Ptr 1 0) rfl rfl) rfl rfl ?_ -- front.go:40 move
          refine Runs_p rfl (Valid.nilcheck rfl rfl) rfl rfl ?_ -- front.go:40 nilCheck
          refine Runs_p rfl (Valid.fieldaddr (off' := 1) rfl rfl (fun _ _ => by kernel_rfl)) rfl rfl ?_ -- front.go:40 fieldAddr
          refine Runs_p rfl (Valid.load _ rfl ag22 rfl rfl rfl) rfl rfl ?_ -- front.go:40 load
          refine Runs_p rfl (Valid.movek (A := Is _) rfl rfl) rfl rfl ?_ -- front.go:40 move
          refine Runs_p rfl (Valid.lit (el := 3) [_] rfl rfl (fun _ => by kernel_rfl) rfl (by decide)) rfl rfl ?_ -- front.go:40 buildSlice
          refine Runs_w rfl (Valid.app rfl Try.underlying22 ti3 (by decide) rfl rfl (Reads.sl rfl) (by first | exact one_map (fun _ => rfl) | exact one_cons rfl one_nil | exact one_app (one_map (fun _ => rfl)) (one_cons rfl one_nil) | exact one_app (one_map (fun _ => rfl)) (one_map (fun _ => rfl)) | exact one_rep rfl | exact one_app (one_rep rfl) (one_map (fun _ => rfl)) | (intro u hu; simp at hu; rcases hu with rfl | hu <;> first | rfl | (subst hu; rfl))) (by first | (simp only [maxLen]; omega) | (simp only [maxLen, Int.toNat_natCast, toNat_add, toNat_add1, List.length_append, List.length_cons, List.length_nil, List.length_replicate]; omega)) (by first | omega | (simp only [Int.toNat_natCast, toNat_add, toNat_add1, List.length_append, List.length_cons, List.length_nil, List.length_replicate]; omega))) rfl rfl ?_ -- front.go:40 call
          refine Runs_p rfl (Valid.nilcheck rfl rfl) rfl rfl ?_ -- front.go:40 nilCheck
          refine Runs_p rfl (Valid.fieldaddr (off' := 1) rfl rfl (fun _ _ => by kernel_rfl)) rfl rfl ?_ -- front.go:40 fieldAddr
          refine Runs_op rfl (Valid.store rfl sz22 rfl rfl (Nat.le_of_ble_eq_true rfl) (One.sl (Reads.own rfl))) rfl ?_ -- front.go:40 store
          refine Runs_nil ?_
          refine thenQ_n ?_
          refine W_regionE (c := 31) (c' := 37) (by kernel_rfl) rfl ?_
          refine Runs_p rfl (Valid.movek (A := Ptr 1 0) rfl rfl) rfl rfl ?_ -- front.go:41 move
          refine Runs_p rfl (Valid.nilcheck rfl rfl) rfl rfl ?_ -- front.go:41 nilCheck
          refine Runs_p rfl (Valid.fieldaddr (off' := 0) rfl rfl (fun _ _ => by kernel_rfl)) rfl rfl ?_ -- front.go:41 fieldAddr
          refine Runs_p rfl (Valid.load _ rfl ag47 rfl rfl rfl) rfl rfl ?_ -- front.go:41 load
          refine Runs_p rfl (Valid.movek (A := Is _) rfl rfl) rfl rfl ?_ -- front.go:41 move
          refine Runs_w rfl (Valid.callm [(1, 2)] rfl (.inl ⟨rfl, rfl⟩) (bring_s _ _ (by omega) (by omega) (by omega)) ⟨(leq_buf rfl rfl rfl (by first | rfl | omega)), (leq_is rfl rfl rfl), trivial⟩ ⟨⟨_, rfl, .buf rfl⟩, trivial⟩ (up_pure rfl) (hpup_cons (j := 2) rfl cup_buf hpup_nil) (by kernel_rfl) (by kernel_rfl) (by kernel_rfl) (by kernel_rfl) (by kernel_rfl) (by kernel_rfl) (by kernel_rfl) (by kernel_rfl) (by kernel_rfl)) rfl rfl ?_ -- front.go:41 call
          refine Runs_nil ?_
          refine blockQ_n ?_
          refine thenQ_n ?_
          refine W_regionE (c := 37) (c' := 39) (by kernel_rfl) rfl ?_
          refine Runs_p rfl (Valid.add rfl rfl rfl (room64 (by first | omega | (simp only [Int.toNat_natCast, toNat_add, toNat_add1, List.length_append, List.length_cons, List.length_nil, List.length_replicate]; omega)) (by first | omega | (simp only [Int.toNat_natCast, toNat_add, toNat_add1, List.length_append, List.length_cons, List.length_nil, List.length_replicate]; omega)))) rfl rfl ?_ -- front.go:35 binOp
          refine Runs_p rfl (Valid.movek (A := Is _) rfl rfl) rfl rfl ?_ -- front.go:35 move
          refine Runs_nil ?_
          refine LoopQ.next (k + 1) [(40, 216)] (⟨by omega, fun j hj => (by
                by_cases e : j = k
                · subst e; unfold idx; omega
                · exact hk2 j (by omega))⟩) (by first | omega | (dsimp only; omega)) ⟨⟨(leq_is rfl rfl (by first | rfl | exact plL_1m _ _ _ | exact congrArg (List.map B) (frL_1 _ _ _))), trivial⟩, ⟨(leq_ptr rfl rfl rfl), (leq_is rfl rfl rfl), (leq_is rfl rfl rfl), trivial⟩, ⟨hp_var rfl ⟨(leq_buf rfl rfl rfl (by first | rfl | exact plL_1m _ _ _ | exact congrArg (List.map B) (frL_1 _ _ _))), (leq_own rfl rfl rfl (by first | rfl | exact plL_1m _ _ _ | exact congrArg (List.map B) (frL_1 _ _ _)) (by first | rfl | exact plL_1m _ _ _ | exact congrArg (List.map B) (frL_1 _ _ _))), (leq_is rfl rfl (by first | rfl | exact plL_1m _ _ _ | exact congrArg (List.map B) (frL_1 _ _ _))), trivial⟩, hp_buf rfl (by first | rfl | exact plL_1m _ _ _ | exact congrArg (List.map B) (frL_1 _ _ _)), hp_row rfl (by first | rfl | exact plL_1m _ _ _ | exact congrArg (List.map B) (frL_1 _ _ _)) (by first | rfl | exact plL_1m _ _ _ | exact congrArg (List.map B) (frL_1 _ _ _)), trivial⟩, trivial, rfl, ⟨supg rfl, trivial⟩, ⟨supg rfl, supg rfl, supg rfl, trivial⟩, ⟨suph rfl rfl, suph rfl rfl, suph rfl rfl, trivial⟩, trivial, rfl, rfl⟩
          done)
      done)
  · try simp only [decide_eq_false_iff_not] at hb1
    all_goals (
      exact absurd (fun j hj => hk2 j (by omega)) hok
      
      done)

set_option maxRecDepth 100000 in
set_option maxHeartbeats 1000000 in
theorem begin_s (a : ByteArray) (ha : a.size ≤ 1000000000) :
    FMem Try.prog 25 [Is (.string a)] [] (Ptr 9 0) [(9, .var 49 [Buf 10 a.size, Is (.slice none 0 0), Is (.slice none 0 0)]), (10, .buf 5 (a.data.toList.map B))] := by
  refine FMem.of Try.func25 Try.ntmps25 rfl (by kernel_rfl) rfl rfl rfl ?_
  refine W_seq ?_
  refine W_regionE (c := 1) (c' := 2) (by kernel_rfl) rfl ?_
  refine Runs_p rfl (Valid.assignk (A := Is _) rfl rfl) rfl rfl ?_ -- front.go:31 assign
  refine Runs_nil ?_
  refine thenQ_n ?_
  refine W_seq ?_
  refine W_regionE (c := 2) (c' := 7) (by kernel_rfl) rfl ?_
  refine Runs_p rfl (Valid.movek (A := Is _) rfl rfl) rfl rfl ?_ -- front.go:31 move
  refine Runs_w rfl (Valid.tobuf rfl Try.underlying47 Try.underlying5 Try.underlying9 rfl (by first | omega | (simp only [Int.toNat_natCast, toNat_add, toNat_add1, List.length_append, List.length_cons, List.length_nil, List.length_replicate]; omega))) rfl rfl ?_ -- front.go:31 convert
  refine Runs_p rfl (Valid.buildB [(Value.slice none 0 0), (Value.slice none 0 0)] rfl rfl (fun _ _ _ _ => by kernel_rfl)) rfl rfl ?_ -- front.go:31 build
  refine Runs_w rfl (Valid.boxagg rfl rfl) rfl rfl ?_ -- front.go:31 box
  refine Runs_p rfl (Valid.assignk (A := Ptr 40 0) rfl rfl) rfl rfl ?_ -- front.go:31 assign
  refine Runs_nil ?_
  refine thenQ_n ?_
  refine W_ret ?_
  refine finMQ_r ?_
  exact FinM.leq [(9, 40), (10, 24)] (ResOk.one rfl (RVal.tmp (fun _ _ _ h => h))) (leq_ptr rfl rfl rfl) ⟨hp_var rfl ⟨(leq_buf rfl rfl rfl (by rfl)), (leq_is rfl rfl (by rfl)), (leq_is rfl rfl (by rfl)), trivial⟩, hp_buf rfl (by rfl), trivial⟩ rfl rfl
end Fa
end Go.Proofs.Ytilljaaolejedaa
