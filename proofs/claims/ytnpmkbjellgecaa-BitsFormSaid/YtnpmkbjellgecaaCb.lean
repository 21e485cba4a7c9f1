/-
  WALKS of stage 1: numbers put one behind the other.
-/
import Derived.Test.YtnpmkbjellgecaaRows
import Derived.Test.YtnpmkbjellgecaaAbr
import Derived.Test.YtnpmkbjellgecaaBb
import Derived.Test.YtnpmkbjellgecaaBa
import Derived.Test.YtnpmkbjellgecaaCa
namespace Go.Proofs.Ytnpmkbjellgecaa
open Go.RowKit
namespace Cb
open Ab Bm Bt Bb Ca
theorem ag23 (w : World) : (isAgg 23).run Try.prog w = .ok false w := by kernel_rfl
theorem ag26 (w : World) : (isAgg 26).run Try.prog w = .ok true w := by kernel_rfl
theorem ag3 (w : World) : (isAgg 3).run Try.prog w = .ok false w := by kernel_rfl
theorem ag9 (w : World) : (isAgg 9).run Try.prog w = .ok false w := by kernel_rfl
theorem sz23 (w : World) : (sizeOf 23).run Try.prog w = .ok 1 w := by kernel_rfl
theorem sz26 (w : World) : (sizeOf 26).run Try.prog w = .ok 2 w := by kernel_rfl
theorem sz3 (w : World) : (sizeOf 3).run Try.prog w = .ok 1 w := by kernel_rfl
theorem zv26 (w : World) : (zeroValue 26).run Try.prog w = .ok (.agg #[(Value.string ⟨#[]⟩), (Value.int .i64 0)]) w := by kernel_rfl
theorem awake_f : FPure Try.prog 8 [] (Is (.bool true)) :=
  lift (run_callFunc Try.func8 rfl rfl) (fun σ κ vs h => by
    match vs, h with
    | [], _ => exact awake_at κ.w) (fun _ _ => rfl) rfl
def InU (l : List Int) : Prop := ∀ x ∈ l, 0 ≤ x ∧ x ≤ 18446744073709551615
theorem InU.at_ {l : List Int} (h : InU l) (i : Nat) : 0 ≤ l.getD i 0 ∧ l.getD i 0 ≤ 18446744073709551615 := by
  rw [List.getD_eq_getElem?_getD]
  cases e : l[i]? with
  | none => exact ⟨by decide, by decide⟩
  | some x => exact h x (List.mem_of_getElem? e)
/-- so many numbers, one behind the other -/
def manyB (v n : List Int) : Nat → List Bool
  | 0 => []
  | k + 1 => manyB v n k ++ num (v.getD k 0).toNat (pickV (n.getD k 0) 65).toNat
  termination_by k => k
theorem many_0 (v n : List Int) : manyB v n 0 = [] := by rw [manyB]
theorem many_1 (v n : List Int) (k : Nat) : manyB v n (k + 1) = manyB v n k ++ num (v.getD k 0).toNat (pickV (n.getD k 0) 65).toNat := by rw [manyB]
theorem pick65 (c : Int) : 0 ≤ pickV c 65 ∧ pickV c 65 ≤ 64 := by have := pickV_range c 65 (by decide); omega
theorem many_len (v n : List Int) : ∀ k, (manyB v n k).length ≤ 64 * k
  | 0 => by rw [many_0]; exact Nat.zero_le _
  | k + 1 => by
    have ih := many_len v n k
    have := pick65 (n.getD k 0)
    rw [many_1, List.length_append, num_len]; omega
theorem many_pre (v n : List Int) (m : Nat) : ∀ d, ∃ r, manyB v n (m + d) = manyB v n m ++ r
  | 0 => ⟨[], by rw [List.append_nil]; rfl⟩
  | d + 1 => by
    obtain ⟨r, hr⟩ := many_pre v n m d
    exact ⟨r ++ num (v.getD (m + d) 0).toNat (pickV (n.getD (m + d) 0) 65).toNat, by rw [← Nat.add_assoc, many_1, hr, List.append_assoc]⟩
theorem many_get (v n : List Int) (k m : Nat) (hk : k < m) : getV (pack (manyB v n m)) ((manyB v n k).length : Int) (pickV (n.getD k 0) 65) = ((((v.getD k 0).toNat % 2 ^ (pickV (n.getD k 0) 65).toNat : Nat) : Int), 0) := by
  have hp := pick65 (n.getD k 0)
  obtain ⟨r, hr⟩ := many_pre v n (k + 1) (m - (k + 1))
  rw [show k + 1 + (m - (k + 1)) = m by omega, many_1] at hr
  have hl : (num (v.getD k 0).toNat (pickV (n.getD k 0) 65).toNat).length = (pickV (n.getD k 0) 65).toNat := num_len _ _
  have hb := bitsAt_enc (manyB v n k) (num (v.getD k 0).toNat (pickV (n.getD k 0) 65).toNat) r
  rw [hl] at hb
  have hz : ((manyB v n k).length : Int) + pickV (n.getD k 0) 65 ≤ 8 * (pack (manyB v n m)).size := by
    rw [pack_size, hr, List.length_append, List.length_append, hl]; omega
  unfold getV
  rw [if_neg (by rw [decide_eq_true hp.1, decide_eq_true hp.2, decide_eq_true (Int.natCast_nonneg _)]; simp), if_pos hz, hr, pack_list, Int.toNat_natCast, hb, val_num]
theorem put_t {b : List Bool} {v n : List Int} {k : Nat} (hb : b = manyB v n k) (hv : InU v) (hk : k < 12) :
    FPure Try.prog 11 [BV (pack b) (b.length : Int), Is (.int .u64 (v.getD (k : Int).toNat 0)), Is (.int .i64 (pickV (n.getD (k : Int).toNat 0) 65))] (Tup [BV (pack (manyB v n (k + 1))) ((manyB v n (k + 1)).length : Int), Is (.int .i64 0)]) := by
  subst hb
  have h1 := hv.at_ k; have h2 := pick65 (n.getD k 0); have h3 := many_len v n k
  have := put_f (manyB v n k) _ _ _ (v.getD k 0).toNat (pickV (n.getD k 0) 65).toNat rfl (Int.toNat_of_nonneg h1.1).symm (Int.toNat_of_nonneg h2.1).symm (by omega) (by omega) (by omega)
  rw [many_1]
  exact this
theorem get_t {v n : List Int} {k m : Nat} (hk : k < m) (hm : m ≤ 12) : FPure Try.prog 12 [Is (.string (pack (manyB v n m))), Is (.int .i64 ((manyB v n k).length : Int)), Is (.int .i64 (pickV (n.getD (k : Int).toNat 0) 65))]
    (Tup [Is (.int .u64 (((v.getD k 0).toNat % 2 ^ (pickV (n.getD k 0) 65).toNat : Nat) : Int)), Is (.int .i64 0)]) := by
  have h1 := many_len v n m; have h2 := many_len v n k
  have := get_f (pack (manyB v n m)) ((manyB v n k).length : Int) (pickV (n.getD k 0) 65) (by rw [pack_size]; omega) (by omega)
  rw [many_get v n k m hk] at this
  exact this
theorem room_shl (k : Int) (h0 : 0 ≤ k) (h : k < 64) : Room .u64 ((1 : Int) * 2 ^ k.toNat) := by
  have h1 : 2 ^ k.toNat ≤ 2 ^ 63 := Nat.pow_le_pow_right (n := 2) (by omega) (by omega)
  have h2 : ((2 : Int) ^ k.toNat) = ((2 ^ k.toNat : Nat) : Int) := by simp
  unfold Room
  rw [IntKind.wrap_u64, h2]
  have : 0 < 2 ^ k.toNat := Nat.two_pow_pos _
  omega
theorem two_pos (k : Int) : 0 < (1 : Int) * 2 ^ k.toNat := by
  have h2 : ((2 : Int) ^ k.toNat) = ((2 ^ k.toNat : Nat) : Int) := by simp
  have : 0 < 2 ^ k.toNat := Nat.two_pow_pos _
  rw [h2]; omega
theorem want_lt (v k : Int) (hv : 0 ≤ v) : v % ((1 : Int) * 2 ^ k.toNat) = ((v.toNat % 2 ^ k.toNat : Nat) : Int) := by
  have h2 : ((2 : Int) ^ k.toNat) = ((2 ^ k.toNat : Nat) : Int) := by simp
  rw [Int.one_mul, h2, Int.natCast_emod, Int.toNat_of_nonneg hv]
theorem want_64 (v k : Int) (hv : 0 ≤ v) (h : v ≤ 18446744073709551615) (hk : k = 64) : v = ((v.toNat % 2 ^ k.toNat : Nat) : Int) := by
  subst hk
  rw [Nat.mod_eq_of_lt (by show v.toNat < 2 ^ 64; omega)]; omega

set_option maxRecDepth 100000 in
set_option maxHeartbeats 1000000 in
theorem many_law (v : List Int) (hv : InU v) (lv : v.length ≤ 9223372036854775807) (n : List Int) (hn : In64 n) (ln : n.length ≤ 9223372036854775807) :
    FPure Try.prog 6 [Sl 1 v.length (v.map (Value.int .u64)), Sl 1 n.length (n.map (Value.int .i64))] (Is (.bool true)) := by
  refine FPure.of Try.func6 Try.ntmps6 rfl (by kernel_rfl) rfl rfl rfl ?_
  refine W_seq ?_
  refine W_regionE (c := 1) (c' := 2) (by kernel_rfl) rfl ?_
  refine Runs_p rfl (Valid.assignk (A := Is _) rfl rfl) rfl rfl ?_ -- law.go:168 assign
  refine Runs_nil ?_
  refine thenQ_n ?_
  refine W_seq ?_
  refine W_regionE (c := 2) (c' := 4) (by kernel_rfl) rfl ?_
  refine Runs_p rfl (Valid.call rfl (awake_f) trivial) rfl rfl ?_ -- law.go:169 call
  refine Runs_p rfl (Valid.assignk (A := Is _) rfl rfl) rfl rfl ?_ -- law.go:169 assign
  refine Runs_nil ?_
  refine thenQ_n ?_
  refine W_seq ?_
  refine W_regionE (c := 4) (c' := 5) (by kernel_rfl) rfl ?_
  refine Runs_w rfl (Valid.alloc [(Value.string ⟨#[]⟩), (Value.int .i64 0)] rfl zv26 rfl) rfl rfl ?_ -- law.go:170 alloc
  refine Runs_nil ?_
  refine thenQ_n ?_
  refine W_seq ?_
  refine W_seq ?_
  refine W_regionE (c := 5) (c' := 6) (by kernel_rfl) rfl ?_
  refine Runs_p rfl (Valid.assignk (A := Is _) rfl rfl) rfl rfl ?_ -- law.go:171 assign
  refine Runs_nil ?_
  refine thenQ_n ?_
  refine W_block ?_
  refine W_loopx (G := Nat) (fun (m : Nat) => m ≤ v.length ∧ m ≤ n.length ∧ m ≤ 12) [(0, Sl 1 _ _), (1, Sl 1 _ _), (5, Is _), (6, Ptr 32 0)] (fun (m : Nat) => [(7, Is (.int .i64 (m : Int)))]) [] (fun (m : Nat) => [(32, .var 26 [Is (.string (pack (manyB v n m))), Is (.int .i64 ((manyB v n m).length : Int))])]) 6 (fun (m : Nat) => v.length - m) (0) [] (⟨by omega, by omega, by omega⟩) ⟨⟨(leq_is rfl rfl (by first | rfl | (rw [many_0]; rfl))), trivial⟩, ⟨(leq_sl (Reads.sl rfl) rfl rfl rfl), (leq_sl (Reads.sl rfl) rfl rfl rfl), (leq_is rfl rfl rfl), (leq_ptr rfl rfl rfl), trivial⟩, ⟨hp_var rfl ⟨(leq_is rfl rfl (by first | rfl | (rw [many_0]; rfl))), (leq_is rfl rfl (by first | rfl | (rw [many_0]; rfl))), trivial⟩, trivial⟩, trivial, rfl, ⟨supg rfl, trivial⟩, ⟨supg rfl, supg rfl, supg rfl, supg rfl, trivial⟩, ⟨suph rfl rfl, trivial⟩, trivial, rfl, rfl⟩ ?_
  intro m hI1
  obtain ⟨hm1, hm2, hm3⟩ := hI1
  refine W_seq ?_
  refine W_seq ?_
  refine W_regionE (c := 6) (c' := 20) (by kernel_rfl) rfl ?_
  refine Runs_p rfl (Valid.movek (A := Is _) rfl rfl) rfl rfl ?_ -- law.go:171 move
  refine Runs_p rfl (Valid.movek (A := Sl 1 _ _) rfl rfl) rfl rfl ?_ -- law.go:171 move
  refine Runs_p rfl (Valid.len rfl Try.underlying40 (Reads.sl rfl)) rfl rfl ?_ -- law.go:171 call
  refine Runs_p rfl (Valid.lss rfl rfl rfl) rfl rfl ?_ -- law.go:171 binOp
  refine Runs_p rfl (Valid.movek (A := Is _) rfl rfl) rfl rfl ?_ -- law.go:171 move
  refine Runs_cnd rfl rfl (Grd.is rfl) [] (fun hg => trivial) (fun hg => Valid.movek (A := Is _) rfl rfl) (by rfl) rfl ?_
  refine Runs_cnd rfl rfl (Grd.is rfl) [(22, _)] (fun hg => ⟨cnd_at rfl (by first | exact hg | exact hg.1 | exact hg.1.1 | exact hg.1.1.1), trivial⟩) (fun hg => Valid.lss rfl rfl rfl) (by rfl) rfl ?_
  refine Runs_p rfl (Valid.pickand rfl rfl rfl (fun h => by first | exact h | exact ⟨hg, h⟩) rfl) rfl rfl ?_ -- law.go:171 pick
  refine Runs_p rfl (Valid.movek (A := Is _) rfl rfl) rfl rfl ?_ -- law.go:171 move
  refine Runs_cnd rfl rfl (Grd.is rfl) [] (fun hg => trivial) (fun hg => Valid.movek (A := Is _) rfl rfl) (by rfl) rfl ?_
  refine Runs_cnd rfl rfl (Grd.is rfl) [] (fun hg => trivial) (fun hg => Valid.movek (A := Sl 1 _ _) rfl rfl) (by rfl) rfl ?_
  refine Runs_cnd rfl rfl (Grd.is rfl) [(27, _)] (fun hg => ⟨cnd_at rfl (by first | exact hg | exact hg.1 | exact hg.1.1 | exact hg.1.1.1), trivial⟩) (fun hg => Valid.len rfl Try.underlying22 (Reads.sl rfl)) (by rfl) rfl ?_
  refine Runs_cnd rfl rfl (Grd.is rfl) [(26, _), (28, _)] (fun hg => ⟨cnd_at rfl (by first | exact hg | exact hg.1 | exact hg.1.1 | exact hg.1.1.1), cnd_at rfl (by first | exact hg | exact hg.1 | exact hg.1.1 | exact hg.1.1.1), trivial⟩) (fun hg => Valid.lss rfl rfl rfl) (by rfl) rfl ?_
  refine Runs_p rfl (Valid.pickand rfl rfl rfl (fun h => by first | exact h | exact ⟨hg, h⟩) rfl) rfl rfl ?_ -- law.go:171 pick
  refine Runs_nil ?_
  refine thenQ_n ?_
  refine W_cond _ rfl (fun hb1 => ?_) (fun hb1 => ?_)
  · try simp only [decide_eq_true_eq, Bool.and_eq_true] at hb1
    all_goals (
      refine W_skip ?_
      refine thenQ_n ?_
      refine W_seq ?_
      refine W_block ?_
      refine W_seq ?_
      refine W_drawE (c := 20) (c' := 37) (by kernel_rfl) rfl ?_
      refine Runs_p rfl (Valid.loadagg rfl ag26 sz26 rfl rfl (Nat.le_of_ble_eq_true rfl)) rfl rfl ?_ -- law.go:172 load
      refine Runs_p rfl (Valid.movek (A := Sl 1 _ _) rfl rfl) rfl rfl ?_ -- law.go:172 move
      refine Runs_p rfl (Valid.movek (A := Is _) rfl rfl) rfl rfl ?_ -- law.go:172 move
      refine Runs_p rfl (Valid.eltaddr1 0 rfl Try.underlying40 sz23 (Reads.sl rfl) rfl (by first | omega | (simp only [Int.toNat_natCast, toNat_add, toNat_add1, List.length_append, List.length_cons, List.length_nil, List.length_replicate]; omega)) (by first | rfl | simp)) rfl rfl ?_ -- law.go:172 indexAddr
      refine Runs_p rfl (Valid.loadelt rfl ag23 rfl) rfl rfl ?_ -- law.go:172 load
      refine Runs_p rfl (Valid.movek (A := Sl 1 _ _) rfl rfl) rfl rfl ?_ -- law.go:172 move
      refine Runs_p rfl (Valid.movek (A := Is _) rfl rfl) rfl rfl ?_ -- law.go:172 move
      refine Runs_p rfl (Valid.eltaddr1 0 rfl Try.underlying22 sz3 (Reads.sl rfl) rfl (by first | omega | (simp only [Int.toNat_natCast, toNat_add, toNat_add1, List.length_append, List.length_cons, List.length_nil, List.length_replicate]; omega)) (by first | rfl | simp)) rfl rfl ?_ -- law.go:172 indexAddr
      refine Runs_p rfl (Valid.loadelt rfl ag3 rfl) rfl rfl ?_ -- law.go:172 load
      refine Runs_p rfl (Valid.call rfl (pick1_s _ _ (hn.at_ _).1 (hn.at_ _).2 (by decide) (by decide)) ⟨argle rfl, argle rfl, trivial⟩) rfl rfl ?_ -- law.go:172 call
      refine Runs_p rfl (Valid.call rfl (put_t (n := n) rfl hv (by omega)) ⟨argle rfl, argle rfl, argle rfl, trivial⟩) rfl rfl ?_ -- law.go:172 call
      refine Runs_p rfl (Valid.movek (A := Tup [Agg [Is _, Is _], Is _]) rfl rfl) rfl rfl ?_ -- law.go:172 move
      refine Runs_p rfl (Valid.extract _ rfl rfl rfl) rfl rfl ?_ -- law.go:172 extract
      refine Runs_p rfl (Valid.extract _ rfl rfl rfl) rfl rfl ?_ -- law.go:172 extract
      refine Runs_w rfl (Valid.alloc [(Value.string ⟨#[]⟩), (Value.int .i64 0)] rfl zv26 rfl) rfl rfl ?_ -- law.go:172 alloc
      refine Runs_op rfl (Valid.storeagg (l := [_, _]) rfl sz26 rfl rfl (Nat.le_of_ble_eq_true rfl) rfl ⟨(One.is rfl rfl rfl), (One.is rfl rfl rfl), trivial⟩) rfl ?_ -- law.go:172 store
      refine Runs_p rfl (Valid.assignk (A := Is _) rfl rfl) rfl rfl ?_ -- law.go:172 assign
      refine Runs_nil ?_
      refine ⟨_, _, rfl, rfl, by kernel_rfl, ?_⟩
      refine thenQ_n ?_
      refine W_seq ?_
      refine W_seq ?_
      refine W_regionE (c := 37) (c' := 39) (by kernel_rfl) rfl ?_
      refine Runs_p rfl (Valid.movek (A := Is _) rfl rfl) rfl rfl ?_ -- law.go:173 move
      refine Runs_p rfl (Valid.neq rfl rfl rfl) rfl rfl ?_ -- law.go:173 binOp
      refine Runs_nil ?_
      refine thenQ_n ?_
      refine W_cond _ rfl (fun hb2 => ?_) (fun hb2 => ?_)
      · try simp only [decide_eq_true_eq, not_true_eq_false, ne_eq] at hb2
        all_goals (
          exfalso
          simp at hb2
          
          done)
      · try simp only [decide_eq_false_iff_not, not_true_eq_false, not_false_eq_true, ne_eq] at hb2
        all_goals (
          refine W_skip ?_
          refine thenQ_n ?_
          refine W_regionE (c := 39) (c' := 41) (by kernel_rfl) rfl ?_
          refine Runs_p rfl (Valid.loadagg rfl ag26 sz26 rfl rfl (Nat.le_of_ble_eq_true rfl)) rfl rfl ?_ -- law.go:176 load
          refine Runs_op rfl (Valid.storeagg (l := [_, _]) rfl sz26 rfl rfl (Nat.le_of_ble_eq_true rfl) rfl ⟨(One.is rfl rfl rfl), (One.is rfl rfl rfl), trivial⟩) rfl ?_ -- law.go:176 store
          refine Runs_nil ?_
          refine blockQ_n ?_
          refine thenQ_n ?_
          refine W_regionE (c := 41) (c' := 44) (by kernel_rfl) rfl ?_
          refine Runs_p rfl (Valid.movek (A := Is _) rfl rfl) rfl rfl ?_ -- law.go:171 move
          refine Runs_p rfl (Valid.add rfl rfl rfl (room64 (by first | omega | (simp only [Int.toNat_natCast, toNat_add, toNat_add1, List.length_append, List.length_cons, List.length_nil, List.length_replicate]; omega)) (by first | omega | (simp only [Int.toNat_natCast, toNat_add, toNat_add1, List.length_append, List.length_cons, List.length_nil, List.length_replicate]; omega)))) rfl rfl ?_ -- law.go:171 binOp
          refine Runs_p rfl (Valid.assignk (A := Is _) rfl rfl) rfl rfl ?_ -- law.go:171 assign
          refine Runs_nil ?_
          refine LoopQ.next (m + 1) [] (⟨by omega, by omega, by omega⟩) (by first | omega | (dsimp only; omega)) ⟨⟨(leq_is rfl rfl (by rfl)), trivial⟩, ⟨(leq_sl (Reads.sl rfl) rfl rfl rfl), (leq_sl (Reads.sl rfl) rfl rfl rfl), (leq_is rfl rfl rfl), (leq_ptr rfl rfl rfl), trivial⟩, ⟨hp_var rfl ⟨(leq_is rfl rfl (by rfl)), (leq_is rfl rfl (by rfl)), trivial⟩, trivial⟩, trivial, rfl, ⟨supg rfl, trivial⟩, ⟨supg rfl, supg rfl, supg rfl, supg rfl, trivial⟩, ⟨suph rfl rfl, trivial⟩, trivial, rfl, rfl⟩
          done)
      done)
  · try simp only [decide_eq_false_iff_not, Bool.and_eq_false_iff] at hb1
    all_goals (
      refine W_exit ?_
      refine thenQ_e ?_
      refine loopQ_e ?_
      refine blockQ_x ?_
      refine thenQ_n ?_
      refine W_seq ?_
      refine W_regionE (c := 20) (c' := 21) (by kernel_rfl) rfl ?_
      refine Runs_p rfl (Valid.assignk (A := Is _) rfl rfl) rfl rfl ?_ -- law.go:178 assign
      refine Runs_nil ?_
      refine thenQ_n ?_
      refine W_seq ?_
      refine W_seq ?_
      refine W_regionE (c := 21) (c' := 22) (by kernel_rfl) rfl ?_
      refine Runs_p rfl (Valid.assignk (A := Is _) rfl rfl) rfl rfl ?_ -- law.go:179 assign
      refine Runs_nil ?_
      refine thenQ_n ?_
      refine W_block ?_
      refine W_loopx (G := Nat) (fun (i : Nat) => i ≤ m) [(0, Sl 1 _ _), (1, Sl 1 _ _), (5, Is _), (6, Ptr 32 0)] (fun (i : Nat) => [(11, Is (.int .i64 (i : Int))), (10, Is (.int .i64 ((manyB v n i).length : Int)))]) [(32, .var 26 [Is _, Is _])] (fun (i : Nat) => []) 22 (fun (i : Nat) => m - i) (0) [] (by first | trivial | omega | (simp; omega)) ⟨⟨(leq_is rfl rfl (by first | rfl | (rw [many_0]; rfl))), (leq_is rfl rfl (by first | rfl | (rw [many_0]; rfl))), trivial⟩, ⟨(leq_sl (Reads.sl rfl) rfl rfl rfl), (leq_sl (Reads.sl rfl) rfl rfl rfl), (leq_is rfl rfl rfl), (leq_ptr rfl rfl rfl), trivial⟩, trivial, ⟨hp_var rfl ⟨(leq_is rfl rfl rfl), (leq_is rfl rfl rfl), trivial⟩, trivial⟩, rfl, ⟨supg rfl, supg rfl, trivial⟩, ⟨supg rfl, supg rfl, supg rfl, supg rfl, trivial⟩, trivial, ⟨suph rfl rfl, trivial⟩, rfl, rfl⟩ ?_
      intro i hI2
      have hvi := hv.at_ (i : Int).toNat
      have hp := pick65 (n.getD (i : Int).toNat 0)
      have hp2 : 0 ≤ pickV (n.getD i 0) 65 ∧ pickV (n.getD i 0) 65 ≤ 64 := hp
      have hml := many_len v n i
      refine W_seq ?_
      refine W_seq ?_
      refine W_regionE (c := 22) (c' := 36) (by kernel_rfl) rfl ?_
      refine Runs_p rfl (Valid.movek (A := Is _) rfl rfl) rfl rfl ?_ -- law.go:179 move
      refine Runs_p rfl (Valid.movek (A := Sl 1 _ _) rfl rfl) rfl rfl ?_ -- law.go:179 move
      refine Runs_p rfl (Valid.len rfl Try.underlying40 (Reads.sl rfl)) rfl rfl ?_ -- law.go:179 call
      refine Runs_p rfl (Valid.lss rfl rfl rfl) rfl rfl ?_ -- law.go:179 binOp
      refine Runs_p rfl (Valid.movek (A := Is _) rfl rfl) rfl rfl ?_ -- law.go:179 move
      refine Runs_cnd rfl rfl (Grd.is rfl) [] (fun hg => trivial) (fun hg => Valid.movek (A := Is _) rfl rfl) (by rfl) rfl ?_
      refine Runs_cnd rfl rfl (Grd.is rfl) [(55, _)] (fun hg => ⟨cnd_at rfl (by first | exact hg | exact hg.1 | exact hg.1.1 | exact hg.1.1.1), trivial⟩) (fun hg => Valid.lss rfl rfl rfl) (by rfl) rfl ?_
      refine Runs_p rfl (Valid.pickand rfl rfl rfl (fun h => by first | exact h | exact ⟨hg, h⟩) rfl) rfl rfl ?_ -- law.go:179 pick
      refine Runs_p rfl (Valid.movek (A := Is _) rfl rfl) rfl rfl ?_ -- law.go:179 move
      refine Runs_cnd rfl rfl (Grd.is rfl) [] (fun hg => trivial) (fun hg => Valid.movek (A := Is _) rfl rfl) (by rfl) rfl ?_
      refine Runs_cnd rfl rfl (Grd.is rfl) [] (fun hg => trivial) (fun hg => Valid.movek (A := Sl 1 _ _) rfl rfl) (by rfl) rfl ?_
      refine Runs_cnd rfl rfl (Grd.is rfl) [(60, _)] (fun hg => ⟨cnd_at rfl (by first | exact hg | exact hg.1 | exact hg.1.1 | exact hg.1.1.1), trivial⟩) (fun hg => Valid.len rfl Try.underlying22 (Reads.sl rfl)) (by rfl) rfl ?_
      refine Runs_cnd rfl rfl (Grd.is rfl) [(59, _), (61, _)] (fun hg => ⟨cnd_at rfl (by first | exact hg | exact hg.1 | exact hg.1.1 | exact hg.1.1.1), cnd_at rfl (by first | exact hg | exact hg.1 | exact hg.1.1 | exact hg.1.1.1), trivial⟩) (fun hg => Valid.lss rfl rfl rfl) (by rfl) rfl ?_
      refine Runs_p rfl (Valid.pickand rfl rfl rfl (fun h => by first | exact h | exact ⟨hg, h⟩) rfl) rfl rfl ?_ -- law.go:179 pick
      refine Runs_nil ?_
      refine thenQ_n ?_
      refine W_cond _ rfl (fun hb3 => ?_) (fun hb3 => ?_)
      · try simp only [decide_eq_true_eq, Bool.and_eq_true] at hb3
        all_goals (
          refine W_skip ?_
          refine thenQ_n ?_
          refine W_seq ?_
          refine W_block ?_
          refine W_seq ?_
          refine W_regionE (c := 36) (c' := 42) (by kernel_rfl) rfl ?_
          refine Runs_p rfl (Valid.movek (A := Sl 1 _ _) rfl rfl) rfl rfl ?_ -- law.go:180 move
          refine Runs_p rfl (Valid.movek (A := Is _) rfl rfl) rfl rfl ?_ -- law.go:180 move
          refine Runs_p rfl (Valid.eltaddr1 0 rfl Try.underlying22 sz3 (Reads.sl rfl) rfl (by first | omega | (simp only [Int.toNat_natCast, toNat_add, toNat_add1, List.length_append, List.length_cons, List.length_nil, List.length_replicate]; omega)) (by first | rfl | simp)) rfl rfl ?_ -- law.go:180 indexAddr
          refine Runs_p rfl (Valid.loadelt rfl ag3 rfl) rfl rfl ?_ -- law.go:180 load
          refine Runs_p rfl (Valid.call rfl (pick1_s _ _ (hn.at_ _).1 (hn.at_ _).2 (by decide) (by decide)) ⟨argle rfl, argle rfl, trivial⟩) rfl rfl ?_ -- law.go:180 call
          refine Runs_p rfl (Valid.assignk (A := Is _) rfl rfl) rfl rfl ?_ -- law.go:180 assign
          refine Runs_nil ?_
          refine thenQ_n ?_
          refine W_seq ?_
          refine W_regionE (c := 42) (c' := 52) (by kernel_rfl) rfl ?_
          refine Runs_p rfl (Valid.fieldaddr (off' := 0) rfl rfl (fun _ _ => by kernel_rfl)) rfl rfl ?_ -- law.go:181 fieldAddr
          refine Runs_p rfl (Valid.load _ rfl ag9 rfl rfl rfl) rfl rfl ?_ -- law.go:181 load
          refine Runs_p rfl (Valid.movek (A := Is _) rfl rfl) rfl rfl ?_ -- law.go:181 move
          refine Runs_p rfl (Valid.movek (A := Is _) rfl rfl) rfl rfl ?_ -- law.go:181 move
          refine Runs_p rfl (Valid.call rfl (get_t (m := m) (by omega) (by omega)) ⟨argle rfl, argle rfl, argle rfl, trivial⟩) rfl rfl ?_ -- law.go:181 call
          refine Runs_p rfl (Valid.movek (A := Tup [Is _, Is _]) rfl rfl) rfl rfl ?_ -- law.go:181 move
          refine Runs_p rfl (Valid.extract _ rfl rfl rfl) rfl rfl ?_ -- law.go:181 extract
          refine Runs_p rfl (Valid.extract _ rfl rfl rfl) rfl rfl ?_ -- law.go:181 extract
          refine Runs_p rfl (Valid.assignk (A := Is _) rfl rfl) rfl rfl ?_ -- law.go:181 assign
          refine Runs_p rfl (Valid.assignk (A := Is _) rfl rfl) rfl rfl ?_ -- law.go:181 assign
          refine Runs_nil ?_
          refine thenQ_n ?_
          refine W_seq ?_
          refine W_regionE (c := 52) (c' := 57) (by kernel_rfl) rfl ?_
          refine Runs_p rfl (Valid.movek (A := Sl 1 _ _) rfl rfl) rfl rfl ?_ -- law.go:182 move
          refine Runs_p rfl (Valid.movek (A := Is _) rfl rfl) rfl rfl ?_ -- law.go:182 move
          refine Runs_p rfl (Valid.eltaddr1 0 rfl Try.underlying40 sz23 (Reads.sl rfl) rfl (by first | omega | (simp only [Int.toNat_natCast, toNat_add, toNat_add1, List.length_append, List.length_cons, List.length_nil, List.length_replicate]; omega)) (by first | rfl | simp)) rfl rfl ?_ -- law.go:182 indexAddr
          refine Runs_p rfl (Valid.loadelt rfl ag23 rfl) rfl rfl ?_ -- law.go:182 load
          refine Runs_p rfl (Valid.assignk (A := Is _) rfl rfl) rfl rfl ?_ -- law.go:182 assign
          refine Runs_nil ?_
          refine thenQ_n ?_
          refine W_seq ?_
          refine W_seq ?_
          refine W_regionE (c := 57) (c' := 59) (by kernel_rfl) rfl ?_
          refine Runs_p rfl (Valid.movek (A := Is _) rfl rfl) rfl rfl ?_ -- law.go:183 move
          refine Runs_p rfl (Valid.lss rfl rfl rfl) rfl rfl ?_ -- law.go:183 binOp
          refine Runs_nil ?_
          refine thenQ_n ?_
          refine W_cond _ rfl (fun hb4 => ?_) (fun hb4 => ?_)
          · try simp only [Int.toNat_natCast, decide_eq_true_eq] at hb4
            all_goals (
              refine W_regionE (c := 59) (c' := 64) (by kernel_rfl) rfl ?_
              refine Runs_p rfl (Valid.movek (A := Is _) rfl rfl) rfl rfl ?_ -- law.go:184 move
              refine Runs_p rfl (Valid.movek (A := Is _) rfl rfl) rfl rfl ?_ -- law.go:184 move
              refine Runs_p rfl (Valid.shl rfl rfl rfl (by omega) (by have := pick65 (n.getD (i : Int).toNat 0); simp only [IntKind.bits]; omega) (room_shl _ (by have := pick65 (n.getD (i : Int).toNat 0); omega) (by have h9 : pickV (n.getD i 0) 65 = pickV (n.getD (i : Int).toNat 0) 65 := rfl; omega))) rfl rfl ?_ -- law.go:184 binOp
              refine Runs_p rfl (Valid.rem rfl rfl rfl (by have h2 := two_pos (pickV (n.getD (i : Int).toNat 0) 65); have hvi2 : 0 ≤ v.getD i 0 := hvi.1; simp only [Int.toNat_natCast] at *; omega) (by have h2 := two_pos (pickV (n.getD (i : Int).toNat 0) 65); have hvi2 : 0 ≤ v.getD i 0 := hvi.1; simp only [Int.toNat_natCast] at *; omega)) rfl rfl ?_ -- law.go:184 binOp
              refine Runs_p rfl (Valid.assignk (A := Is _) rfl rfl) rfl rfl ?_ -- law.go:184 assign
              refine Runs_nil ?_
              refine thenQ_n ?_
              refine W_seq ?_
              refine W_seq ?_
              refine W_regionE (c := 64) (c' := 71) (by kernel_rfl) rfl ?_
              refine Runs_p rfl (Valid.movek (A := Is _) rfl rfl) rfl rfl ?_ -- law.go:186 move
              refine Runs_p rfl (Valid.neq rfl rfl rfl) rfl rfl ?_ -- law.go:186 binOp
              refine Runs_p rfl (Valid.movek (A := Is _) rfl rfl) rfl rfl ?_ -- law.go:186 move
              refine Runs_cnd rfl rfl (Grd.is rfl) [] (fun hg => trivial) (fun hg => Valid.movek (A := Is _) rfl rfl) (by rfl) rfl ?_
              refine Runs_cnd rfl rfl (Grd.is rfl) [] (fun hg => trivial) (fun hg => Valid.movek (A := Is _) rfl rfl) (by rfl) rfl ?_
              refine Runs_cnd rfl rfl (Grd.is rfl) [(92, _), (93, _)] (fun hg => ⟨cnd_at rfl (by first | exact hg | exact hg.1 | exact hg.1.1 | exact hg.1.1.1), cnd_at rfl (by first | exact hg | exact hg.1 | exact hg.1.1 | exact hg.1.1.1), trivial⟩) (fun hg => Valid.neq rfl rfl rfl) (by rfl) rfl ?_
              refine Runs_p rfl (Valid.pickor rfl rfl rfl rfl (fun h => by first | exact h | exact ⟨hg, h⟩)) rfl rfl ?_ -- law.go:186 pick
              refine Runs_nil ?_
              refine thenQ_n ?_
              refine W_cond _ rfl (fun hb5 => ?_) (fun hb5 => ?_)
              · try simp only [Int.toNat_natCast, decide_eq_true_eq, Bool.or_eq_true, not_true_eq_false, ne_eq] at hb5
                all_goals (
                  exfalso
                  have h1 := want_lt (v.getD i 0) (pickV (n.getD i 0) 65) hvi.1
                  rcases hb5 with h | h
                  · simp at h
                  · exact h h1.symm
                  
                  done)
              · try simp only [Int.toNat_natCast, decide_eq_false_iff_not, Bool.or_eq_false_iff, not_true_eq_false, not_false_eq_true, ne_eq] at hb5
                all_goals (
                  refine W_skip ?_
                  refine thenQ_n ?_
                  refine W_regionE (c := 71) (c' := 75) (by kernel_rfl) rfl ?_
                  refine Runs_p rfl (Valid.movek (A := Is _) rfl rfl) rfl rfl ?_ -- law.go:189 move
                  refine Runs_p rfl (Valid.movek (A := Is _) rfl rfl) rfl rfl ?_ -- law.go:189 move
                  refine Runs_p rfl (Valid.add rfl rfl rfl (room64 (by first | omega | (simp only [Int.toNat_natCast, toNat_add, toNat_add1, List.length_append, List.length_cons, List.length_nil, List.length_replicate]; omega)) (by first | omega | (simp only [Int.toNat_natCast, toNat_add, toNat_add1, List.length_append, List.length_cons, List.length_nil, List.length_replicate]; omega)))) rfl rfl ?_ -- law.go:189 binOp
                  refine Runs_p rfl (Valid.assignk (A := Is _) rfl rfl) rfl rfl ?_ -- law.go:189 assign
                  refine Runs_nil ?_
                  refine blockQ_n ?_
                  refine thenQ_n ?_
                  refine W_regionE (c := 75) (c' := 78) (by kernel_rfl) rfl ?_
                  refine Runs_p rfl (Valid.movek (A := Is _) rfl rfl) rfl rfl ?_ -- law.go:179 move
                  refine Runs_p rfl (Valid.add rfl rfl rfl (room64 (by first | omega | (simp only [Int.toNat_natCast, toNat_add, toNat_add1, List.length_append, List.length_cons, List.length_nil, List.length_replicate]; omega)) (by first | omega | (simp only [Int.toNat_natCast, toNat_add, toNat_add1, List.length_append, List.length_cons, List.length_nil, List.length_replicate]; omega)))) rfl rfl ?_ -- law.go:179 binOp
                  refine Runs_p rfl (Valid.assignk (A := Is _) rfl rfl) rfl rfl ?_ -- law.go:179 assign
                  refine Runs_nil ?_
                  refine LoopQ.next (i + 1) [] (by omega) (by omega) ⟨⟨(leq_is rfl rfl (by first | rfl | (rw [many_1, List.length_append, num_len]; exact congrArg (Value.int .i64) (by simp only [Int.toNat_natCast] at *; omega)))), (leq_is rfl rfl (by first | rfl | (rw [many_1, List.length_append, num_len]; exact congrArg (Value.int .i64) (by simp only [Int.toNat_natCast] at *; omega)))), trivial⟩, ⟨(leq_sl (Reads.sl rfl) rfl rfl rfl), (leq_sl (Reads.sl rfl) rfl rfl rfl), (leq_is rfl rfl rfl), (leq_ptr rfl rfl rfl), trivial⟩, trivial, ⟨hp_var rfl ⟨(leq_is rfl rfl rfl), (leq_is rfl rfl rfl), trivial⟩, trivial⟩, rfl, ⟨supg rfl, supg rfl, trivial⟩, ⟨supg rfl, supg rfl, supg rfl, supg rfl, trivial⟩, trivial, ⟨suph rfl rfl, trivial⟩, rfl, rfl⟩
                  done)
              done)
          · try simp only [Int.toNat_natCast, decide_eq_false_iff_not] at hb4
            all_goals (
              refine W_skip ?_
              refine thenQ_n ?_
              refine W_seq ?_
              refine W_seq ?_
              refine W_regionE (c := 59) (c' := 66) (by kernel_rfl) rfl ?_
              refine Runs_p rfl (Valid.movek (A := Is _) rfl rfl) rfl rfl ?_ -- law.go:186 move
              refine Runs_p rfl (Valid.neq rfl rfl rfl) rfl rfl ?_ -- law.go:186 binOp
              refine Runs_p rfl (Valid.movek (A := Is _) rfl rfl) rfl rfl ?_ -- law.go:186 move
              refine Runs_cnd rfl rfl (Grd.is rfl) [] (fun hg => trivial) (fun hg => Valid.movek (A := Is _) rfl rfl) (by rfl) rfl ?_
              refine Runs_cnd rfl rfl (Grd.is rfl) [] (fun hg => trivial) (fun hg => Valid.movek (A := Is _) rfl rfl) (by rfl) rfl ?_
              refine Runs_cnd rfl rfl (Grd.is rfl) [(92, _), (93, _)] (fun hg => ⟨cnd_at rfl (by first | exact hg | exact hg.1 | exact hg.1.1 | exact hg.1.1.1), cnd_at rfl (by first | exact hg | exact hg.1 | exact hg.1.1 | exact hg.1.1.1), trivial⟩) (fun hg => Valid.neq rfl rfl rfl) (by rfl) rfl ?_
              refine Runs_p rfl (Valid.pickor rfl rfl rfl rfl (fun h => by first | exact h | exact ⟨hg, h⟩)) rfl rfl ?_ -- law.go:186 pick
              refine Runs_nil ?_
              refine thenQ_n ?_
              refine W_cond _ rfl (fun hb6 => ?_) (fun hb6 => ?_)
              · try simp only [Int.toNat_natCast, decide_eq_true_eq, Bool.or_eq_true, not_true_eq_false, ne_eq] at hb6
                all_goals (
                  exfalso
                  have h1 := want_64 (v.getD i 0) (pickV (n.getD i 0) 65) hvi.1 hvi.2 (by omega)
                  rcases hb6 with h | h
                  · simp at h
                  · exact h h1.symm
                  
                  done)
              · try simp only [Int.toNat_natCast, decide_eq_false_iff_not, Bool.or_eq_false_iff, not_true_eq_false, not_false_eq_true, ne_eq] at hb6
                all_goals (
                  refine W_skip ?_
                  refine thenQ_n ?_
                  refine W_regionE (c := 66) (c' := 70) (by kernel_rfl) rfl ?_
                  refine Runs_p rfl (Valid.movek (A := Is _) rfl rfl) rfl rfl ?_ -- law.go:189 move
                  refine Runs_p rfl (Valid.movek (A := Is _) rfl rfl) rfl rfl ?_ -- law.go:189 move
                  refine Runs_p rfl (Valid.add rfl rfl rfl (room64 (by first | omega | (simp only [Int.toNat_natCast, toNat_add, toNat_add1, List.length_append, List.length_cons, List.length_nil, List.length_replicate]; omega)) (by first | omega | (simp only [Int.toNat_natCast, toNat_add, toNat_add1, List.length_append, List.length_cons, List.length_nil, List.length_replicate]; omega)))) rfl rfl ?_ -- law.go:189 binOp
                  refine Runs_p rfl (Valid.assignk (A := Is _) rfl rfl) rfl rfl ?_ -- law.go:189 assign
                  refine Runs_nil ?_
                  refine blockQ_n ?_
                  refine thenQ_n ?_
                  refine W_regionE (c := 70) (c' := 73) (by kernel_rfl) rfl ?_
                  refine Runs_p rfl (Valid.movek (A := Is _) rfl rfl) rfl rfl ?_ -- law.go:179 move
                  refine Runs_p rfl (Valid.add rfl rfl rfl (room64 (by first | omega | (simp only [Int.toNat_natCast, toNat_add, toNat_add1, List.length_append, List.length_cons, List.length_nil, List.length_replicate]; omega)) (by first | omega | (simp only [Int.toNat_natCast, toNat_add, toNat_add1, List.length_append, List.length_cons, List.length_nil, List.length_replicate]; omega)))) rfl rfl ?_ -- law.go:179 binOp
                  refine Runs_p rfl (Valid.assignk (A := Is _) rfl rfl) rfl rfl ?_ -- law.go:179 assign
                  refine Runs_nil ?_
                  refine LoopQ.next (i + 1) [] (by omega) (by omega) ⟨⟨(leq_is rfl rfl (by first | rfl | (rw [many_1, List.length_append, num_len]; exact congrArg (Value.int .i64) (by simp only [Int.toNat_natCast] at *; omega)))), (leq_is rfl rfl (by first | rfl | (rw [many_1, List.length_append, num_len]; exact congrArg (Value.int .i64) (by simp only [Int.toNat_natCast] at *; omega)))), trivial⟩, ⟨(leq_sl (Reads.sl rfl) rfl rfl rfl), (leq_sl (Reads.sl rfl) rfl rfl rfl), (leq_is rfl rfl rfl), (leq_ptr rfl rfl rfl), trivial⟩, trivial, ⟨hp_var rfl ⟨(leq_is rfl rfl rfl), (leq_is rfl rfl rfl), trivial⟩, trivial⟩, rfl, ⟨supg rfl, supg rfl, trivial⟩, ⟨supg rfl, supg rfl, supg rfl, supg rfl, trivial⟩, trivial, ⟨suph rfl rfl, trivial⟩, rfl, rfl⟩
                  done)
              done)
          done)
      · try simp only [decide_eq_false_iff_not, Bool.and_eq_false_iff] at hb3
        all_goals (
          refine W_exit ?_
          refine thenQ_e ?_
          refine loopQ_e ?_
          refine blockQ_x ?_
          refine thenQ_n ?_
          refine W_seq ?_
          refine W_regionE (c := 36) (c' := 48) (by kernel_rfl) rfl ?_
          refine Runs_p rfl (Valid.movek (A := Is _) rfl rfl) rfl rfl ?_ -- law.go:191 move
          refine Runs_p rfl (Valid.movek (A := Is _) rfl rfl) rfl rfl ?_ -- law.go:191 move
          refine Runs_cnd rfl rfl (Grd.is rfl) [] (fun hg => trivial) (fun hg => Valid.movek (A := Is _) rfl rfl) (by rfl) rfl ?_
          refine Runs_cnds (t := 6) rfl rfl (Grd.is rfl) [] (fun hg => trivial) (fun hg => Valid.fieldaddr (off' := 1) rfl rfl (fun _ _ => by kernel_rfl)) (by simp [Op.operands]) rfl rfl ?_
          refine Runs_cnd rfl rfl (Grd.is rfl) [(102, _)] (fun hg => ⟨cnd_at rfl (by first | exact hg | exact hg.1 | exact hg.1.1 | exact hg.1.1.1), trivial⟩) (fun hg => Valid.load _ rfl ag3 rfl rfl rfl) (by rfl) rfl ?_
          refine Runs_cnd rfl rfl (Grd.is rfl) [(101, _), (103, _)] (fun hg => ⟨cnd_at rfl (by first | exact hg | exact hg.1 | exact hg.1.1 | exact hg.1.1.1), cnd_at rfl (by first | exact hg | exact hg.1 | exact hg.1.1 | exact hg.1.1.1), trivial⟩) (fun hg => Valid.eql rfl rfl rfl) (by rfl) rfl ?_
          refine Runs_p rfl (Valid.pickand rfl rfl rfl (fun h => by first | exact h | exact ⟨hg, h⟩) rfl) rfl rfl ?_ -- law.go:191 pick
          refine Runs_p rfl (Valid.movek (A := Is _) rfl rfl) rfl rfl ?_ -- law.go:191 move
          refine Runs_cnd rfl rfl (Grd.is rfl) [] (fun hg => trivial) (fun hg => Valid.loadagg rfl ag26 sz26 rfl rfl (Nat.le_of_ble_eq_true rfl)) (by rfl) rfl ?_
          refine Runs_cnd rfl rfl (Grd.is rfl) [(107, _)] (fun hg => ⟨cnd_at rfl (by first | exact hg | exact hg.1 | exact hg.1.1 | exact hg.1.1.1), trivial⟩) (fun hg => Valid.call rfl (right_f _ _ (by (try simp only [decide_eq_true_eq, Bool.and_eq_true] at hg); have := many_len v n m; rw [pack_size]; omega) (by (try simp only [decide_eq_true_eq, Bool.and_eq_true] at hg); omega) (by (try simp only [decide_eq_true_eq, Bool.and_eq_true] at hg); have := many_len v n m; omega)) ⟨argle rfl, trivial⟩) (by rfl) rfl ?_
          refine Runs_p rfl (Valid.pickand rfl rfl rfl (fun h => by first | exact h | exact ⟨hg, h⟩) rfl) rfl rfl ?_ -- law.go:191 pick
          refine Runs_p rfl (Valid.assignk (A := Is _) rfl rfl) rfl rfl ?_ -- law.go:191 assign
          refine Runs_nil ?_
          refine thenQ_n ?_
          refine W_ret ?_
          refine finQ_r ?_
          refine ResOk.one rfl (RVal.is rfl rfl (by rw [right_pack, show i = m by omega]; simp))
          done)
      done)
end Cb
end Go.Proofs.Ytnpmkbjellgecaa
