/-
  WALKS of stage 12: numbers of tables, the one that was told last first.
-/
import Derived.Test.YtkjmdnehlodihaaRows
import Derived.Test.YtkjmdnehlodihaaAbs
import Derived.Test.YtkjmdnehlodihaaBb
namespace Go.Proofs.Ytkjmdnehlodihaa
open Go.RowKit
namespace Ea
open Ab Bm Bt Bb
theorem ag28 (w : World) : (isAgg 28).run Try.prog w = .ok true w := by kernel_rfl
theorem ag3 (w : World) : (isAgg 3).run Try.prog w = .ok false w := by kernel_rfl
theorem si3 : (Try.prog.info? 3).map (·.size) = some 1 := by kernel_rfl
theorem sz28 (w : World) : (sizeOf 28).run Try.prog w = .ok 2 w := by kernel_rfl
theorem sz3 (w : World) : (sizeOf 3).run Try.prog w = .ok 1 w := by kernel_rfl
theorem zv28 (w : World) : (zeroValue 28).run Try.prog w = .ok (.agg #[(Value.string ⟨#[]⟩), (Value.int .i64 0)]) w := by kernel_rfl
def mtfI (l : List Int) (k : Nat) : List Int := l.getD k 0 :: (l.take k ++ l.drop (k + 1))
theorem mtfI_len (l : List Int) (k : Nat) (h : k < l.length) : (mtfI l k).length = l.length := by simp [mtfI]; omega
theorem mtfI_cut (l : List Int) (k n : Nat) (h : k < l.length) (hn : n = k) : (l.take 1 ++ (l.drop 0).take n ++ l.drop (1 + n)).set 0 (l.getD k 0) = mtfI l k := by
  subst hn
  cases l with
  | nil => simp at h
  | cons a l => simp [mtfI, Nat.add_comm 1 n]
/-- where a number stands -/
def idxI : List Int → Int → Nat
  | [], _ => 0
  | b :: l, c => if b = c then 0 else idxI l c + 1
theorem idxI_lt {l : List Int} {c : Int} (h : c ∈ l) : idxI l c < l.length := by
  induction l with
  | nil => cases h
  | cons b l ih =>
    unfold idxI
    split
    · simp
    · rename_i hb
      have := ih (by rcases List.mem_cons.1 h with h | h; exact absurd h.symm hb; exact h)
      simp; omega
theorem idxI_at {l : List Int} {c : Int} (h : c ∈ l) : l.getD (idxI l c) 0 = c := by
  induction l with
  | nil => cases h
  | cons b l ih =>
    unfold idxI
    split
    · rename_i hb; exact hb
    · rename_i hb
      exact ih (by rcases List.mem_cons.1 h with h | h; exact absurd h.symm hb; exact h)
theorem idxI_ne {l : List Int} {c : Int} : ∀ {k : Nat}, k < idxI l c → l.getD k 0 ≠ c := by
  induction l with
  | nil => intro k h; simp [idxI] at h
  | cons b l ih =>
    intro k h
    unfold idxI at h
    split at h
    · omega
    · rename_i hb
      cases k with
      | zero => exact hb
      | succ k => exact ih (k := k) (by omega)

set_option maxRecDepth 100000 in
set_option maxHeartbeats 1000000 in
theorem bring_s (l : List Int) (r : List Value) (i : Int) (h0 : 0 ≤ i) (hi : i < l.length) (hl : l.length = 6) :
    FMem Try.prog 40 [Ptr 1 0, Is (.int .i64 i)] [(1, .arr 72 (AX (Value.int .i64) l r))] (Is (.int .i64 (l.getD i.toNat 0))) [(1, .arr 72 (AX (Value.int .i64) (mtfI l i.toNat) r))] := by
  refine FMem.of Try.func40 Try.ntmps40 rfl (by kernel_rfl) rfl rfl rfl ?_
  refine W_seq ?_
  refine W_regionE (c := 1) (c' := 2) (by kernel_rfl) rfl ?_
  refine Runs_p rfl (Valid.assignk (A := Is _) rfl rfl) rfl rfl ?_ -- selectors.go:16 assign
  refine Runs_nil ?_
  refine thenQ_n ?_
  refine W_seq ?_
  refine W_regionE (c := 2) (c' := 8) (by kernel_rfl) rfl ?_
  refine Runs_p rfl (Valid.movek (A := Ptr 1 0) rfl rfl) rfl rfl ?_ -- selectors.go:17 move
  refine Runs_p rfl (Valid.movek (A := Is _) rfl rfl) rfl rfl ?_ -- selectors.go:17 move
  refine Runs_p rfl (Valid.nilcheck rfl rfl) rfl rfl ?_ -- selectors.go:17 nilCheck
  refine Runs_p rfl (Valid.idxarr1 rfl Try.underlying70 sz3 rfl rfl (by first | omega | (simp only [Int.toNat_natCast, toNat_add, toNat_add1, List.length_append, List.length_cons, List.length_nil, List.length_replicate]; omega))) rfl rfl ?_ -- selectors.go:17 indexAddr
  refine Runs_p rfl (Valid.loadX 0 rfl ag3 rfl rfl (by first | omega | (simp only [Int.toNat_natCast, toNat_add, toNat_add1, List.length_append, List.length_cons, List.length_nil, List.length_replicate]; omega))) rfl rfl ?_ -- selectors.go:17 load
  refine Runs_p rfl (Valid.assignk (A := Is _) rfl rfl) rfl rfl ?_ -- selectors.go:17 assign
  refine Runs_nil ?_
  refine thenQ_n ?_
  refine W_seq ?_
  refine W_drawE (c := 8) (c' := 18) (by kernel_rfl) rfl ?_
  refine Runs_p rfl (Valid.movek (A := Ptr 1 0) rfl rfl) rfl rfl ?_ -- selectors.go:18 move
  refine Runs_p rfl (Valid.nilcheck rfl rfl) rfl rfl ?_ -- selectors.go:18 nilCheck
  refine Runs_p rfl (Valid.movek (A := Is _) rfl rfl) rfl rfl ?_ -- selectors.go:18 move
  refine Runs_p rfl (Valid.add rfl rfl rfl (room64 (by first | omega | (simp only [Int.toNat_natCast, toNat_add, toNat_add1, List.length_append, List.length_cons, List.length_nil, List.length_replicate]; omega)) (by first | omega | (simp only [Int.toNat_natCast, toNat_add, toNat_add1, List.length_append, List.length_cons, List.length_nil, List.length_replicate]; omega)))) rfl rfl ?_ -- selectors.go:18 binOp
  refine Runs_p rfl (Valid.cutV rfl Try.underlying70 sz3 rfl rfl rfl (by first | omega | (simp only [Int.toNat_natCast, toNat_add, toNat_add1, List.length_append, List.length_cons, List.length_nil, List.length_replicate]; omega))) rfl rfl ?_ -- selectors.go:18 slice
  refine Runs_p rfl (Valid.movek (A := Ptr 1 0) rfl rfl) rfl rfl ?_ -- selectors.go:18 move
  refine Runs_p rfl (Valid.nilcheck rfl rfl) rfl rfl ?_ -- selectors.go:18 nilCheck
  refine Runs_p rfl (Valid.movek (A := Is _) rfl rfl) rfl rfl ?_ -- selectors.go:18 move
  refine Runs_p rfl (Valid.cutVto rfl Try.underlying70 sz3 rfl rfl (by first | omega | (simp only [Int.toNat_natCast, toNat_add, toNat_add1, List.length_append, List.length_cons, List.length_nil, List.length_replicate]; omega))) rfl rfl ?_ -- selectors.go:18 slice
  refine Runs_w rfl (Valid.copyX rfl Try.underlying22 si3 rfl rfl rfl (by first | omega | (simp only [Int.toNat_natCast, toNat_add, toNat_add1, List.length_append, List.length_cons, List.length_nil, List.length_replicate]; omega)) (by first | omega | (simp only [Int.toNat_natCast, toNat_add, toNat_add1, List.length_append, List.length_cons, List.length_nil, List.length_replicate]; omega)) (by first | omega | (simp only [Int.toNat_natCast, toNat_add, toNat_add1, List.length_append, List.length_cons, List.length_nil, List.length_replicate]; omega)) (fun _ => rfl)) rfl rfl ?_ -- selectors.go:18 call
  refine Runs_nil ?_
  refine ⟨_, _, rfl, rfl, by kernel_rfl, ?_⟩
  refine thenQ_n ?_
  refine W_seq ?_
  refine W_regionE (c := 18) (c' := 23) (by kernel_rfl) rfl ?_
  refine Runs_p rfl (Valid.movek (A := Ptr 1 0) rfl rfl) rfl rfl ?_ -- selectors.go:19 move
  refine Runs_p rfl (Valid.movek (A := Is _) rfl rfl) rfl rfl ?_ -- selectors.go:19 move
  refine Runs_p rfl (Valid.nilcheck rfl rfl) rfl rfl ?_ -- selectors.go:19 nilCheck
  refine Runs_p rfl (Valid.idxarr1 rfl Try.underlying70 sz3 rfl rfl (by first | omega | (simp only [Int.toNat_natCast, toNat_add, toNat_add1, List.length_append, List.length_cons, List.length_nil, List.length_replicate]; omega))) rfl rfl ?_ -- selectors.go:19 indexAddr
  refine Runs_op rfl (Valid.storeX _ rfl sz3 rfl rfl (by simp; omega) rfl (One.is rfl rfl rfl)) rfl ?_ -- selectors.go:19 store
  refine Runs_nil ?_
  refine thenQ_n ?_
  refine W_seq ?_
  refine W_regionE (c := 23) (c' := 25) (by kernel_rfl) rfl ?_
  refine Runs_p rfl (Valid.movek (A := Is _) rfl rfl) rfl rfl ?_ -- selectors.go:20 move
  refine Runs_p rfl (Valid.assignk (A := Is _) rfl rfl) rfl rfl ?_ -- selectors.go:20 assign
  refine Runs_nil ?_
  refine thenQ_n ?_
  refine W_ret ?_
  refine finMQ_r ?_
  exact FinM.of [] (ResOk.one rfl (RVal.is rfl rfl (by rfl))) rfl ⟨hp_ax rfl (by first | rfl | exact mtfI_cut l i.toNat _ (by omega) (by omega)) (by first | rfl | exact mtfI_cut l i.toNat _ (by omega) (by omega)), trivial⟩ rfl rfl

set_option maxRecDepth 100000 in
set_option maxHeartbeats 1000000 in
theorem place_s (l : List Int) (r : List Value) (v : Int) (hv : v ∈ l) (hl : l.length = 6) :
    FMem Try.prog 39 [Ptr 1 0, Is (.int .i64 v)] [(1, .arr 72 (AX (Value.int .i64) l r))] (Is (.int .i64 (idxI l v : Nat))) [(1, .arr 72 (AX (Value.int .i64) l r))] := by
  refine FMem.of Try.func39 Try.ntmps39 rfl (by kernel_rfl) rfl rfl rfl ?_
  refine W_seq ?_
  refine W_regionE (c := 1) (c' := 2) (by kernel_rfl) rfl ?_
  refine Runs_p rfl (Valid.assignk (A := Is _) rfl rfl) rfl rfl ?_ -- selectors.go:24 assign
  refine Runs_nil ?_
  refine thenQ_n ?_
  refine W_seq ?_
  refine W_regionE (c := 2) (c' := 3) (by kernel_rfl) rfl ?_
  refine Runs_p rfl (Valid.assignk (A := Is _) rfl rfl) rfl rfl ?_ -- selectors.go:25 assign
  refine Runs_nil ?_
  refine thenQ_n ?_
  refine W_seq ?_
  refine W_block ?_
  refine W_loopx (G := Nat) (fun (k : Nat) => k ≤ idxI l v) [(0, Ptr 1 0), (1, Is _)] (fun (k : Nat) => [(5, Is (.int .i64 (k : Int)))]) [(1, .arr 72 (AX (Value.int .i64) _ _))] (fun (k : Nat) => []) 3 (fun (k : Nat) => idxI l v - k) (0) [] (by first | trivial | omega | (simp; omega)) ⟨⟨(leq_is rfl rfl (by first | rfl | (simp; done) | omega | (simp [toNat_add, toNat_add1, Nat.add_assoc]; done) | (simp [toNat_add, toNat_add1]; omega))), trivial⟩, ⟨(leq_ptr rfl rfl rfl), (leq_is rfl rfl rfl), trivial⟩, trivial, ⟨hp_ax rfl rfl rfl, trivial⟩, rfl, ⟨supg rfl, trivial⟩, ⟨supg rfl, supg rfl, trivial⟩, trivial, ⟨suph rfl rfl, trivial⟩, rfl, rfl⟩ ?_
  intro k hI1
  have hlt := idxI_lt hv
  have hat := idxI_at hv
  have hne : k < idxI l v → l.getD k 0 ≠ v := idxI_ne
  refine W_seq ?_
  refine W_seq ?_
  refine W_regionE (c := 3) (c' := 10) (by kernel_rfl) rfl ?_
  refine Runs_p rfl (Valid.movek (A := Ptr 1 0) rfl rfl) rfl rfl ?_ -- selectors.go:26 move
  refine Runs_p rfl (Valid.movek (A := Is _) rfl rfl) rfl rfl ?_ -- selectors.go:26 move
  refine Runs_p rfl (Valid.nilcheck rfl rfl) rfl rfl ?_ -- selectors.go:26 nilCheck
  refine Runs_p rfl (Valid.idxarr1 rfl Try.underlying70 sz3 rfl rfl (by first | omega | (simp only [Int.toNat_natCast, toNat_add, toNat_add1, List.length_append, List.length_cons, List.length_nil, List.length_replicate]; omega))) rfl rfl ?_ -- selectors.go:26 indexAddr
  refine Runs_p rfl (Valid.loadX 0 rfl ag3 rfl rfl (by first | omega | (simp only [Int.toNat_natCast, toNat_add, toNat_add1, List.length_append, List.length_cons, List.length_nil, List.length_replicate]; omega))) rfl rfl ?_ -- selectors.go:26 load
  refine Runs_p rfl (Valid.movek (A := Is _) rfl rfl) rfl rfl ?_ -- selectors.go:26 move
  refine Runs_p rfl (Valid.neq rfl rfl rfl) rfl rfl ?_ -- selectors.go:26 binOp
  refine Runs_nil ?_
  refine thenQ_n ?_
  refine W_cond _ rfl (fun hb1 => ?_) (fun hb1 => ?_)
  · try simp only [Int.toNat_natCast, decide_eq_true_eq, ne_eq] at hb1
    all_goals (
      have hk : k < idxI l v := by
        rcases Nat.lt_or_ge k (idxI l v) with h | h
        · exact h
        · exact absurd (by rw [← hat, show k = idxI l v by omega]) hb1
      refine W_skip ?_
      refine thenQ_n ?_
      refine W_block ?_
      refine W_regionE (c := 10) (c' := 13) (by kernel_rfl) rfl ?_
      refine Runs_p rfl (Valid.movek (A := Is _) rfl rfl) rfl rfl ?_ -- selectors.go:27 move
      refine Runs_p rfl (Valid.add rfl rfl rfl (room64 (by first | omega | (simp only [Int.toNat_natCast, toNat_add, toNat_add1, List.length_append, List.length_cons, List.length_nil, List.length_replicate]; omega)) (by first | omega | (simp only [Int.toNat_natCast, toNat_add, toNat_add1, List.length_append, List.length_cons, List.length_nil, List.length_replicate]; omega)))) rfl rfl ?_ -- selectors.go:27 binOp
      refine Runs_p rfl (Valid.assignk (A := Is _) rfl rfl) rfl rfl ?_ -- selectors.go:27 assign
      refine Runs_nil ?_
      refine blockQ_n ?_
      refine LoopQ.next (k + 1) [] (by omega) (by omega) ⟨⟨(leq_is rfl rfl (by first | rfl | (simp; done) | omega | (simp [toNat_add, toNat_add1, Nat.add_assoc]; done) | (simp [toNat_add, toNat_add1]; omega))), trivial⟩, ⟨(leq_ptr rfl rfl rfl), (leq_is rfl rfl rfl), trivial⟩, trivial, ⟨hp_ax rfl rfl rfl, trivial⟩, rfl, ⟨supg rfl, trivial⟩, ⟨supg rfl, supg rfl, trivial⟩, trivial, ⟨suph rfl rfl, trivial⟩, rfl, rfl⟩
      done)
  · try simp only [Int.toNat_natCast, decide_eq_false_iff_not, ne_eq] at hb1
    all_goals (
      have hk : k = idxI l v := by
        rcases Nat.lt_or_ge k (idxI l v) with h | h
        · exact absurd (by simpa using hb1) (hne h)
        · omega
      refine W_exit ?_
      refine thenQ_e ?_
      refine loopQ_e ?_
      refine blockQ_x ?_
      refine thenQ_n ?_
      refine W_seq ?_
      refine W_regionE (c := 10) (c' := 12) (by kernel_rfl) rfl ?_
      refine Runs_p rfl (Valid.movek (A := Is _) rfl rfl) rfl rfl ?_ -- selectors.go:29 move
      refine Runs_p rfl (Valid.assignk (A := Is _) rfl rfl) rfl rfl ?_ -- selectors.go:29 assign
      refine Runs_nil ?_
      refine thenQ_n ?_
      refine W_ret ?_
      refine finMQ_r ?_
      exact FinM.of [] (ResOk.one rfl (RVal.is rfl rfl (by rw [hk]))) rfl ⟨hp_ax rfl (by rfl) (by rfl), trivial⟩ rfl rfl
      done)

/-- so many ones, and a nought -/
def unB (k : Nat) : List Bool := List.replicate k true ++ [false]
theorem unB_len (k : Nat) : (unB k).length = k + 1 := by simp [unB]
theorem un_num : ∀ k, k < 6 → num (2 ^ (k + 1) - 2) (k + 1) = unB k := by decide
theorem un_wrap : ∀ k : Nat, k < 6 → IntKind.u64.wrap (1 * (2 : Int) ^ ((k : Int) + 1).toNat - 2) = ((2 ^ (k + 1) - 2 : Nat) : Int) := by decide
theorem put_un (k : Nat) (hk : k < 6) : FPure Try.prog 19 [BV ⟨#[]⟩ 0, Is (.int .u64 (IntKind.u64.wrap (1 * (2 : Int) ^ ((k : Int) + 1).toNat - 2))), Is (.int .i64 ((k : Int) + 1))] (Tup [BV (pack (unB k)) ((unB k).length : Int), Is (.int .i64 0)]) := by
  have h := put_f [] 0 _ ((k : Int) + 1) (2 ^ (k + 1) - 2) (k + 1) rfl (un_wrap k hk) (by omega) (by
    have : 2 ^ (k + 1) ≤ 2 ^ 6 := Nat.pow_le_pow_right (by omega) (by omega)
    omega) (by omega) (by simp)
  rw [List.nil_append, un_num k hk] at h
  exact h
theorem room_un (k : Nat) (hk : k < 6) : Room .u64 ((1 : Int) * 2 ^ ((k : Int) + 1).toNat) := by
  have key : ∀ k : Nat, k < 6 → IntKind.u64.wrap ((1 : Int) * 2 ^ ((k : Int) + 1).toNat) = (1 : Int) * 2 ^ ((k : Int) + 1).toNat := by decide
  exact key k hk

set_option maxRecDepth 100000 in
set_option maxHeartbeats 1000000 in
theorem put_s (l : List Int) (r : List Value) (v : Int) (hv : v ∈ l) (hl : l.length = 6) :
    FMem Try.prog 22 [Ptr 1 0, Is (.int .i64 v)] [(1, .arr 72 (AX (Value.int .i64) l r))] (Agg [Is (.string (pack (unB (idxI l v)))), Is (.int .i64 ((unB (idxI l v)).length : Int))]) [(1, .arr 72 (AX (Value.int .i64) (mtfI l (idxI l v)) r))] := by
  have hlt := idxI_lt hv
  refine FMem.of Try.func22 Try.ntmps22 rfl (by kernel_rfl) rfl rfl rfl ?_
  refine W_seq ?_
  refine W_regionE (c := 1) (c' := 2) (by kernel_rfl) rfl ?_
  refine Runs_w rfl (Valid.alloc [(Value.string ⟨#[]⟩), (Value.int .i64 0)] rfl zv28 rfl) rfl rfl ?_ -- selectors.go:51 alloc
  refine Runs_nil ?_
  refine thenQ_n ?_
  refine W_seq ?_
  refine W_regionE (c := 2) (c' := 8) (by kernel_rfl) rfl ?_
  refine Runs_p rfl (Valid.movek (A := Ptr 1 0) rfl rfl) rfl rfl ?_ -- selectors.go:52 move
  refine Runs_p rfl (Valid.nilcheck rfl rfl) rfl rfl ?_ -- selectors.go:52 nilCheck
  refine Runs_p rfl (Valid.fieldaddr (off' := 0) rfl rfl (fun _ _ => by kernel_rfl)) rfl rfl ?_ -- selectors.go:52 fieldAddr
  refine Runs_p rfl (Valid.movek (A := Is _) rfl rfl) rfl rfl ?_ -- selectors.go:52 move
  refine Runs_w rfl (Valid.callm [(1, 1)] rfl (.inl ⟨rfl, rfl⟩) (place_s _ _ _ (by assumption) (by omega)) ⟨(leq_ptr rfl rfl rfl), (leq_is rfl rfl rfl), trivial⟩ ⟨⟨_, rfl, .arr rfl⟩, trivial⟩ (up_pure rfl) (hpup_cons (j := 1) rfl cup_arr hpup_nil) (by kernel_rfl) (by kernel_rfl) (by kernel_rfl) (by kernel_rfl) (by kernel_rfl) (by kernel_rfl) (by kernel_rfl) (by kernel_rfl) (by kernel_rfl)) rfl rfl ?_ -- selectors.go:52 call
  refine Runs_p rfl (Valid.assignk (A := Is _) rfl rfl) rfl rfl ?_ -- selectors.go:52 assign
  refine Runs_nil ?_
  refine thenQ_n ?_
  refine W_seq ?_
  refine W_regionE (c := 8) (c' := 13) (by kernel_rfl) rfl ?_
  refine Runs_p rfl (Valid.movek (A := Ptr 1 0) rfl rfl) rfl rfl ?_ -- selectors.go:53 move
  refine Runs_p rfl (Valid.nilcheck rfl rfl) rfl rfl ?_ -- selectors.go:53 nilCheck
  refine Runs_p rfl (Valid.fieldaddr (off' := 0) rfl rfl (fun _ _ => by kernel_rfl)) rfl rfl ?_ -- selectors.go:53 fieldAddr
  refine Runs_p rfl (Valid.movek (A := Is _) rfl rfl) rfl rfl ?_ -- selectors.go:53 move
  refine Runs_w rfl (Valid.callm [(1, 1)] rfl (.inl ⟨rfl, rfl⟩) (bring_s _ _ _ (by omega) (by omega) (by omega)) ⟨(leq_ptr rfl rfl rfl), (leq_is rfl rfl rfl), trivial⟩ ⟨⟨_, rfl, .arr rfl⟩, trivial⟩ (up_pure rfl) (hpup_cons (j := 1) rfl cup_arr hpup_nil) (by kernel_rfl) (by kernel_rfl) (by kernel_rfl) (by kernel_rfl) (by kernel_rfl) (by kernel_rfl) (by kernel_rfl) (by kernel_rfl) (by kernel_rfl)) rfl rfl ?_ -- selectors.go:53 call
  refine Runs_nil ?_
  refine thenQ_n ?_
  refine W_seq ?_
  refine W_regionE (c := 13) (c' := 27) (by kernel_rfl) rfl ?_
  refine Runs_p rfl (Valid.build [] [(Value.string ⟨#[]⟩), (Value.int .i64 0)] rfl rfl (fun _ => by kernel_rfl)) rfl rfl ?_ -- selectors.go:54 build
  refine Runs_p rfl (Valid.movek (A := Is _) rfl rfl) rfl rfl ?_ -- selectors.go:54 move
  refine Runs_p rfl (Valid.add rfl rfl rfl (room64 (by first | omega | (simp only [Int.toNat_natCast, toNat_add, toNat_add1, List.length_append, List.length_cons, List.length_nil, List.length_replicate]; omega)) (by first | omega | (simp only [Int.toNat_natCast, toNat_add, toNat_add1, List.length_append, List.length_cons, List.length_nil, List.length_replicate]; omega)))) rfl rfl ?_ -- selectors.go:54 binOp
  refine Runs_p rfl (Valid.shl rfl rfl rfl (by omega) (by simp only [IntKind.bits]; omega) (room_un _ (by omega))) rfl rfl ?_ -- selectors.go:54 binOp
  refine Runs_p rfl (Valid.subw rfl rfl rfl) rfl rfl ?_ -- selectors.go:54 binOp
  refine Runs_p rfl (Valid.movek (A := Is _) rfl rfl) rfl rfl ?_ -- selectors.go:54 move
  refine Runs_p rfl (Valid.add rfl rfl rfl (room64 (by first | omega | (simp only [Int.toNat_natCast, toNat_add, toNat_add1, List.length_append, List.length_cons, List.length_nil, List.length_replicate]; omega)) (by first | omega | (simp only [Int.toNat_natCast, toNat_add, toNat_add1, List.length_append, List.length_cons, List.length_nil, List.length_replicate]; omega)))) rfl rfl ?_ -- selectors.go:54 binOp
  refine Runs_p rfl (Valid.call rfl (put_un _ (by omega)) ⟨argle rfl, argle rfl, argle rfl, trivial⟩) rfl rfl ?_ -- selectors.go:54 call
  refine Runs_p rfl (Valid.movek (A := Tup [Agg [Is _, Is _], Is _]) rfl rfl) rfl rfl ?_ -- selectors.go:54 move
  refine Runs_p rfl (Valid.extract _ rfl rfl rfl) rfl rfl ?_ -- selectors.go:54 extract
  refine Runs_p rfl (Valid.extract _ rfl rfl rfl) rfl rfl ?_ -- selectors.go:54 extract
  refine Runs_w rfl (Valid.alloc [(Value.string ⟨#[]⟩), (Value.int .i64 0)] rfl zv28 rfl) rfl rfl ?_ -- selectors.go:54 alloc
  refine Runs_op rfl (Valid.storeagg (l := [_, _]) rfl sz28 rfl rfl (Nat.le_of_ble_eq_true rfl) rfl ⟨(One.is rfl rfl rfl), (One.is rfl rfl rfl), trivial⟩) rfl ?_ -- selectors.go:54 store
  refine Runs_p rfl (Valid.assignk (A := Is _) rfl rfl) rfl rfl ?_ -- selectors.go:54 assign
  refine Runs_nil ?_
  refine thenQ_n ?_
  refine W_seq ?_
  refine W_regionE (c := 27) (c' := 29) (by kernel_rfl) rfl ?_
  refine Runs_p rfl (Valid.loadagg rfl ag28 sz28 rfl rfl (Nat.le_of_ble_eq_true rfl)) rfl rfl ?_ -- selectors.go:55 load
  refine Runs_op rfl (Valid.storeagg (l := [_, _]) rfl sz28 rfl rfl (Nat.le_of_ble_eq_true rfl) rfl ⟨(One.is rfl rfl rfl), (One.is rfl rfl rfl), trivial⟩) rfl ?_ -- selectors.go:55 store
  refine Runs_nil ?_
  refine thenQ_n ?_
  refine W_ret ?_
  refine finMQ_r ?_
  exact FinM.of [] (ResOk.one rfl (RVal.cellagg ag28 sz28 rfl rfl (Nat.le_of_ble_eq_true rfl) (argle (by rfl)))) rfl ⟨hp_ax rfl (by rfl) (by rfl), trivial⟩ rfl rfl

def iniL : Nat → List Int
  | 0 => [0, 0, 0, 0, 0, 0]
  | k + 1 => (iniL k).set k k
  termination_by k => k
theorem ini_0 : iniL 0 = [0, 0, 0, 0, 0, 0] := by rw [iniL]
theorem ini_1 (k : Nat) : (iniL k).set (k : Int).toNat (k : Int) = iniL (k + 1) := by rw [iniL]; rfl
theorem ini_len : ∀ k, (iniL k).length = 6
  | 0 => by rw [ini_0]; rfl
  | k + 1 => by rw [iniL, List.length_set, ini_len k]

set_option maxRecDepth 100000 in
set_option maxHeartbeats 1000000 in
theorem begin_ok (t : Int) (h2 : 2 ≤ t) (h6 : t ≤ 6) :
    FMem Try.prog 21 [Is (.int .i64 t)] [] (Tup [Ptr 9 0, Is (.bool true)]) [(9, .arr 72 (AX (Value.int .i64) (iniL t.toNat) [.int .i64 t]))] := by
  refine FMem.of Try.func21 Try.ntmps21 rfl (by kernel_rfl) rfl rfl rfl ?_
  refine W_seq ?_
  refine W_regionE (c := 1) (c' := 3) (by kernel_rfl) rfl ?_
  refine Runs_p rfl (Valid.assignk (A := Is _) rfl rfl) rfl rfl ?_ -- selectors.go:39 assign
  refine Runs_p rfl (Valid.assignk (A := Is _) rfl rfl) rfl rfl ?_ -- selectors.go:39 assign
  refine Runs_nil ?_
  refine thenQ_n ?_
  refine W_seq ?_
  refine W_seq ?_
  refine W_regionE (c := 3) (c' := 9) (by kernel_rfl) rfl ?_
  refine Runs_p rfl (Valid.movek (A := Is _) rfl rfl) rfl rfl ?_ -- selectors.go:40 move
  refine Runs_p rfl (Valid.lss rfl rfl rfl) rfl rfl ?_ -- selectors.go:40 binOp
  refine Runs_p rfl (Valid.movek (A := Is _) rfl rfl) rfl rfl ?_ -- selectors.go:40 move
  refine Runs_cnd rfl rfl (Grd.is rfl) [] (fun hg => trivial) (fun hg => Valid.movek (A := Is _) rfl rfl) (by rfl) rfl ?_
  refine Runs_cnd rfl rfl (Grd.is rfl) [(9, _)] (fun hg => ⟨cnd_at rfl (by first | exact hg | exact hg.1 | exact hg.1.1 | exact hg.1.1.1), trivial⟩) (fun hg => Valid.gtr rfl rfl rfl) (by rfl) rfl ?_
  refine Runs_p rfl (Valid.pickor rfl rfl rfl rfl (fun h => by first | exact h | exact ⟨hg, h⟩)) rfl rfl ?_ -- selectors.go:40 pick
  refine Runs_nil ?_
  refine thenQ_n ?_
  refine W_cond _ rfl (fun hb1 => ?_) (fun hb1 => ?_)
  · try simp only [decide_eq_true_eq, Bool.or_eq_true] at hb1
    all_goals (
      exfalso
      omega
      
      done)
  · try simp only [decide_eq_false_iff_not, Bool.or_eq_false_iff] at hb1
    all_goals (
      refine W_skip ?_
      refine thenQ_n ?_
      refine W_seq ?_
      refine W_regionE (c := 9) (c' := 13) (by kernel_rfl) rfl ?_
      refine Runs_p rfl (Valid.movek (A := Is _) rfl rfl) rfl rfl ?_ -- selectors.go:43 move
      refine Runs_p rfl (Valid.build1 [(Value.int .i64 0), (Value.int .i64 0), (Value.int .i64 0), (Value.int .i64 0), (Value.int .i64 0), (Value.int .i64 0)] [] rfl rfl (fun _ => by kernel_rfl)) rfl rfl ?_ -- selectors.go:43 build
      refine Runs_w rfl (Valid.boxagg rfl rfl) rfl rfl ?_ -- selectors.go:43 box
      refine Runs_p rfl (Valid.assignk (A := Ptr 88 0) rfl rfl) rfl rfl ?_ -- selectors.go:43 assign
      refine Runs_nil ?_
      refine thenQ_n ?_
      refine W_seq ?_
      refine W_seq ?_
      refine W_regionE (c := 13) (c' := 15) (by kernel_rfl) rfl ?_
      refine Runs_p rfl (Valid.movek (A := Is _) rfl rfl) rfl rfl ?_ -- selectors.go:44 move
      refine Runs_p rfl (Valid.movek (A := Is _) rfl rfl) rfl rfl ?_ -- selectors.go:44 move
      refine Runs_nil ?_
      refine thenQ_n ?_
      refine W_block ?_
      refine W_loopx (G := Nat) (fun (k : Nat) => (k : Int) ≤ t) [(4, Ptr 88 0), (15, Is _)] (fun (k : Nat) => [(16, Is (.int .i64 (k : Int)))]) [] (fun (k : Nat) => [(88, .arr 72 (AX (Value.int .i64) (iniL k) [.int .i64 t]))]) 15 (fun (k : Nat) => t.toNat - k) (0) [] (by first | trivial | omega | (simp; omega)) ⟨⟨(leq_is rfl rfl (by first | rfl | (rw [ini_0]; rfl))), trivial⟩, ⟨(leq_ptr rfl rfl rfl), (leq_is rfl rfl rfl), trivial⟩, ⟨hp_arr0 rfl (by first | rfl | (rw [ini_0]; rfl)), trivial⟩, trivial, rfl, ⟨supg rfl, trivial⟩, ⟨supg rfl, supg rfl, trivial⟩, ⟨suph rfl rfl, trivial⟩, trivial, rfl, rfl⟩ ?_
      intro k hI1
      have hil := ini_len k
      refine W_seq ?_
      refine W_regionE (c := 15) (c' := 16) (by kernel_rfl) rfl ?_
      refine Runs_p rfl (Valid.lss rfl rfl rfl) rfl rfl ?_ -- selectors.go:44 binOp
      refine Runs_nil ?_
      refine thenQ_n ?_
      refine W_seq ?_
      refine W_cond _ rfl (fun hb2 => ?_) (fun hb2 => ?_)
      · try simp only [decide_eq_true_eq] at hb2
        all_goals (
          refine W_skip ?_
          refine thenQ_n ?_
          refine W_seq ?_
          refine W_block ?_
          refine W_seq ?_
          refine W_regionE (c := 16) (c' := 18) (by kernel_rfl) rfl ?_
          refine Runs_p rfl (Valid.movek (A := Is _) rfl rfl) rfl rfl ?_ -- selectors.go:44 move
          refine Runs_p rfl (Valid.assignk (A := Is _) rfl rfl) rfl rfl ?_ -- selectors.go:44 assign
          refine Runs_nil ?_
          refine thenQ_n ?_
          refine W_regionE (c := 18) (c' := 25) (by kernel_rfl) rfl ?_
          refine Runs_p rfl (Valid.movek (A := Ptr 88 0) rfl rfl) rfl rfl ?_ -- selectors.go:45 move
          refine Runs_p rfl (Valid.movek (A := Is _) rfl rfl) rfl rfl ?_ -- selectors.go:45 move
          refine Runs_p rfl (Valid.movek (A := Is _) rfl rfl) rfl rfl ?_ -- selectors.go:45 move
          refine Runs_p rfl (Valid.nilcheck rfl rfl) rfl rfl ?_ -- selectors.go:45 nilCheck
          refine Runs_p rfl (Valid.fieldaddr (off' := 0) rfl rfl (fun _ _ => by kernel_rfl)) rfl rfl ?_ -- selectors.go:45 fieldAddr
          refine Runs_p rfl (Valid.idxarr1 rfl Try.underlying70 sz3 rfl rfl (by first | omega | (simp only [Int.toNat_natCast, toNat_add, toNat_add1, List.length_append, List.length_cons, List.length_nil, List.length_replicate]; omega))) rfl rfl ?_ -- selectors.go:45 indexAddr
          refine Runs_op rfl (Valid.storeX _ rfl sz3 rfl rfl (by first | omega | (simp only [Int.toNat_natCast, toNat_add, toNat_add1, List.length_append, List.length_cons, List.length_nil, List.length_replicate]; omega)) rfl (One.is rfl rfl rfl)) rfl ?_ -- selectors.go:45 store
          refine Runs_nil ?_
          refine blockQ_n ?_
          refine thenQ_n ?_
          refine W_regionE (c := 25) (c' := 27) (by kernel_rfl) rfl ?_
          refine Runs_p rfl (Valid.add rfl rfl rfl (room64 (by first | omega | (simp only [Int.toNat_natCast, toNat_add, toNat_add1, List.length_append, List.length_cons, List.length_nil, List.length_replicate]; omega)) (by first | omega | (simp only [Int.toNat_natCast, toNat_add, toNat_add1, List.length_append, List.length_cons, List.length_nil, List.length_replicate]; omega)))) rfl rfl ?_ -- selectors.go:44 binOp
          refine Runs_p rfl (Valid.movek (A := Is _) rfl rfl) rfl rfl ?_ -- selectors.go:44 move
          refine Runs_nil ?_
          refine LoopQ.next (k + 1) [] (by omega) (by omega) ⟨⟨(leq_is rfl rfl (by first | rfl | exact ini_1 _)), trivial⟩, ⟨(leq_ptr rfl rfl rfl), (leq_is rfl rfl rfl), trivial⟩, ⟨hp_ax rfl (by first | rfl | exact ini_1 _) (by first | rfl | exact ini_1 _), trivial⟩, trivial, rfl, ⟨supg rfl, trivial⟩, ⟨supg rfl, supg rfl, trivial⟩, ⟨suph rfl rfl, trivial⟩, trivial, rfl, rfl⟩
          done)
      · try simp only [decide_eq_false_iff_not] at hb2
        all_goals (
          refine W_exit ?_
          refine thenQ_e ?_
          refine loopQ_e ?_
          refine blockQ_x ?_
          refine thenQ_n ?_
          refine W_seq ?_
          refine W_regionE (c := 16) (c' := 19) (by kernel_rfl) rfl ?_
          refine Runs_p rfl (Valid.movek (A := Ptr 88 0) rfl rfl) rfl rfl ?_ -- selectors.go:47 move
          refine Runs_p rfl (Valid.assignk (A := Ptr 88 0) rfl rfl) rfl rfl ?_ -- selectors.go:47 assign
          refine Runs_p rfl (Valid.assignk (A := Is _) rfl rfl) rfl rfl ?_ -- selectors.go:47 assign
          refine Runs_nil ?_
          refine thenQ_n ?_
          refine W_ret ?_
          refine finMQ_r ?_
          exact FinM.leq [(9, 88)] (ResOk.two rfl (RVal.tmp (fun _ _ _ h => h)) (RVal.tmp (fun _ _ _ h => h))) (leq_tup rfl rfl ⟨(leq_ptr rfl rfl rfl), (leq_is rfl rfl (by rfl)), trivial⟩) ⟨hp_ax rfl (by first | rfl | (rw [show t.toNat = k by omega])) (by first | rfl | (rw [show t.toNat = k by omega])), trivial⟩ rfl rfl
          done)
      done)

set_option maxRecDepth 100000 in
set_option maxHeartbeats 1000000 in
theorem begin_no (t : Int) (h : t < 2 ∨ 6 < t) :
    FPure Try.prog 21 [Is (.int .i64 t)] (Tup [Is (.pointer none), Is (.bool false)]) := by
  refine FPure.of Try.func21 Try.ntmps21 rfl (by kernel_rfl) rfl rfl rfl ?_
  refine W_seq ?_
  refine W_regionE (c := 1) (c' := 3) (by kernel_rfl) rfl ?_
  refine Runs_p rfl (Valid.assignk (A := Is _) rfl rfl) rfl rfl ?_ -- selectors.go:39 assign
  refine Runs_p rfl (Valid.assignk (A := Is _) rfl rfl) rfl rfl ?_ -- selectors.go:39 assign
  refine Runs_nil ?_
  refine thenQ_n ?_
  refine W_seq ?_
  refine W_seq ?_
  refine W_regionE (c := 3) (c' := 9) (by kernel_rfl) rfl ?_
  refine Runs_p rfl (Valid.movek (A := Is _) rfl rfl) rfl rfl ?_ -- selectors.go:40 move
  refine Runs_p rfl (Valid.lss rfl rfl rfl) rfl rfl ?_ -- selectors.go:40 binOp
  refine Runs_p rfl (Valid.movek (A := Is _) rfl rfl) rfl rfl ?_ -- selectors.go:40 move
  refine Runs_cnd rfl rfl (Grd.is rfl) [] (fun hg => trivial) (fun hg => Valid.movek (A := Is _) rfl rfl) (by rfl) rfl ?_
  refine Runs_cnd rfl rfl (Grd.is rfl) [(9, _)] (fun hg => ⟨cnd_at rfl (by first | exact hg | exact hg.1 | exact hg.1.1 | exact hg.1.1.1), trivial⟩) (fun hg => Valid.gtr rfl rfl rfl) (by rfl) rfl ?_
  refine Runs_p rfl (Valid.pickor rfl rfl rfl rfl (fun h => by first | exact h | exact ⟨hg, h⟩)) rfl rfl ?_ -- selectors.go:40 pick
  refine Runs_nil ?_
  refine thenQ_n ?_
  refine W_cond _ rfl (fun hb1 => ?_) (fun hb1 => ?_)
  · try simp only [decide_eq_true_eq, Bool.or_eq_true] at hb1
    all_goals (
      refine W_seq ?_
      refine W_regionE (c := 9) (c' := 11) (by kernel_rfl) rfl ?_
      refine Runs_p rfl (Valid.assignk (A := Is _) rfl rfl) rfl rfl ?_ -- selectors.go:41 assign
      refine Runs_p rfl (Valid.assignk (A := Is _) rfl rfl) rfl rfl ?_ -- selectors.go:41 assign
      refine Runs_nil ?_
      refine thenQ_n ?_
      refine W_ret ?_
      refine thenQ_r ?_
      refine finQ_r ?_
      refine ResOk.two rfl (RVal.is rfl rfl (by rfl)) (RVal.is rfl rfl (by rfl))
      done)
  · try simp only [decide_eq_false_iff_not, Bool.or_eq_false_iff] at hb1
    all_goals (
      exfalso
      omega
      
      done)
end Ea
end Go.Proofs.Ytkjmdnehlodihaa
