/-
  WALKS of stage 12: the reference, and that it is the program's.
-/
import Derived.Test.YtkjmdnehlodihaaRows
import Derived.Test.YtkjmdnehlodihaaAbs
import Derived.Test.YtkjmdnehlodihaaBb
import Derived.Test.YtkjmdnehlodihaaCm
import Derived.Test.YtkjmdnehlodihaaFz
import Derived.Test.YtkjmdnehlodihaaGm
import Derived.Test.YtkjmdnehlodihaaCa
import Derived.Test.YtkjmdnehlodihaaEa
import Derived.Test.YtkjmdnehlodihaaEb
import Derived.Test.YtkjmdnehlodihaaEc
import Derived.Test.YtkjmdnehlodihaaEd
import Derived.Test.YtkjmdnehlodihaaEe
namespace Go.Proofs.Ytkjmdnehlodihaa
open Go.RowKit
namespace Eg
open Ab Bm Bt Bb Cm Fz Gm Ca Ea Eb Ec Ed Ee
theorem ag28 (w : World) : (isAgg 28).run Try.prog w = .ok true w := by kernel_rfl
theorem ag3 (w : World) : (isAgg 3).run Try.prog w = .ok false w := by kernel_rfl
theorem sz28 (w : World) : (sizeOf 28).run Try.prog w = .ok 2 w := by kernel_rfl
theorem sz3 (w : World) : (sizeOf 3).run Try.prog w = .ok 1 w := by kernel_rfl
theorem ti3 : TI Try.prog 3 1 8 := .mk' (z := (Value.int .i64 0)) (by kernel_rfl) rfl
theorem ti5 : TI Try.prog 5 1 1 := .mk' (z := (Value.int .u8 0)) (by kernel_rfl) rfl
theorem zv28 (w : World) : (zeroValue 28).run Try.prog w = .ok (.agg #[(Value.string ⟨#[]⟩), (Value.int .i64 0)]) w := by kernel_rfl
def toI (u : UInt8) : Int := (u.toNat : Int)
def abc (t : Nat) : ByteArray := (⟨#[0, 1, 2, 3, 4, 5]⟩ : ByteArray).extract 0 t
theorem abc_all (t : Nat) (h : 2 ≤ t ∧ t ≤ 6) : (abc t).data.toList = (List.range t).map UInt8.ofNat ∧ (abc t).size = t ∧ (abc t).data.toList.Nodup := by
  have : t = 2 ∨ t = 3 ∨ t = 4 ∨ t = 5 ∨ t = 6 := by omega
  rcases this with rfl | rfl | rfl | rfl | rfl <;> exact ⟨by decide, by decide, by decide⟩
theorem abc_right (t : Nat) (h : 2 ≤ t ∧ t ≤ 6) : RightP (abc t) := nodup_right (abc_all t h).2.2
theorem abc_mem {t v : Nat} (h : 2 ≤ t ∧ t ≤ 6) (hv : v < t) : UInt8.ofNat v ∈ (abc t).data.toList := by
  rw [(abc_all t h).1]
  exact List.mem_map.2 ⟨v, List.mem_range.2 hv, rfl⟩
theorem abc_lt {t : Nat} (h : 2 ≤ t ∧ t ≤ 6) {u : UInt8} (hu : u ∈ (abc t).data.toList) : u.toNat < t := by
  rw [(abc_all t h).1] at hu
  obtain ⟨v, hv, rfl⟩ := List.mem_map.1 hu
  have := List.mem_range.1 hv
  rw [UInt8.toNat_ofNat']; omega
theorem ini_abc (t : Nat) (h : 2 ≤ t ∧ t ≤ 6) : iniL t = (abc t).data.toList.map toI ++ List.replicate (6 - t) 0 := by
  rw [ini_form t h.2, (abc_all t h).1]
  have : t = 2 ∨ t = 3 ∨ t = 4 ∨ t = 5 ∨ t = 6 := by omega
  rcases this with rfl | rfl | rfl | rfl | rfl <;> decide
theorem mtf_map (l : List UInt8) (z : List Int) (k : Nat) (h : k < l.length) : mtfI (l.map toI ++ z) k = (mtf l k).map toI ++ z := by
  have h0 : (l.map toI ++ z).getD k 0 = toI (l.getD k 0) := by
    rw [getD_lt _ k 0 (by rw [List.length_append, List.length_map]; omega), getD_lt l k 0 h, List.getElem_append_left (by rw [List.length_map]; exact h), List.getElem_map]
  have h1 : (l.map toI ++ z).take k = (l.take k).map toI := by
    rw [List.take_append_of_le_length (by rw [List.length_map]; omega), List.map_take]
  have h2 : (l.map toI ++ z).drop (k + 1) = (l.drop (k + 1)).map toI ++ z := by
    rw [List.drop_append_of_le_length (by rw [List.length_map]; omega), List.map_drop]
  unfold mtfI mtf
  rw [h0, h1, h2, List.map_cons, List.map_append, List.cons_append, List.append_assoc]
theorem at_map (l : List UInt8) (z : List Int) (k : Nat) (h : k < l.length) : (l.map toI ++ z).getD k 0 = toI (l.getD k 0) := by
  rw [getD_lt _ k 0 (by rw [List.length_append, List.length_map]; omega), getD_lt l k 0 h, List.getElem_append_left (by rw [List.length_map]; exact h), List.getElem_map]
theorem toI_inj {a b : UInt8} (h : toI a = toI b) : a = b := UInt8.toNat_inj.1 (by unfold toI at h; omega)
theorem idx_map : ∀ (l : List UInt8) (z : List Int) (c : UInt8), c ∈ l → ((idxI (l.map toI ++ z) (toI c) : Nat) : Int) = idx l c := by
  intro l z c hc
  have hm : toI c ∈ l.map toI ++ z := List.mem_append.2 (.inl (List.mem_map.2 ⟨c, hc, rfl⟩))
  have h0 : 0 ≤ idx l c := idx_mem.2 hc
  have h1 := idx_at h0
  have h2 := idx_lt l c
  have key : idxI (l.map toI ++ z) (toI c) = (idx l c).toNat := by
    rcases Nat.lt_trichotomy (idxI (l.map toI ++ z) (toI c)) (idx l c).toNat with h | h | h
    · exfalso
      have h3 := idxI_at hm
      rw [at_map l z _ (by omega)] at h3
      exact h1.2 _ h (toI_inj h3)
    · exact h
    · exfalso
      have h3 := idxI_ne h
      rw [at_map l z _ (by omega), h1.1] at h3
      exact h3 rfl
  rw [key]; omega
/-- the places that are taken -/
def pP (s : ByteArray) (t a : Int) (n : Nat) : List Int := (List.range n).map fun k => (((tkF s t.toNat 0 (tN s t a k)).1 : Nat) : Int)
theorem pP_0 (s : ByteArray) (t a : Int) : pP s t a 0 = [] := rfl
theorem pP_1 (s : ByteArray) (t a : Int) (n : Nat) : (pP s t a n).map I64 ++ [I64 (((tkF s t.toNat 0 (tN s t a n)).1 : Nat) : Int)] = (pP s t a (n + 1)).map I64 := by
  unfold pP; rw [List.range_succ, List.map_append, List.map_append]; rfl
theorem pP_len (s : ByteArray) (t a : Int) (n : Nat) : (pP s t a n).length = n := by simp [pP]
theorem pP_at (s : ByteArray) (t a : Int) (n k : Nat) (h : k < n) : (pP s t a n).getD k 0 = (((tkF s t.toNat 0 (tN s t a k)).1 : Nat) : Int) := by
  rw [getD_lt _ k 0 (by rw [pP_len]; exact h)]; simp [pP]
theorem fE_le {s : ByteArray} {t a : Int} {n : Nat} (h : fE s t a n = 0) (k : Nat) (hk : k ≤ n) : fE s t a k = 0 := Classical.byContradiction fun hc => by
  have := fE_stop s t a k hc (n - k)
  rw [show k + (n - k) = n by omega] at this
  exact hc (this.symm.trans h)
theorem tk_lt {s : ByteArray} {t a : Int} {n : Nat} (h : fE s t a n = 0) (k : Nat) (hk : k < n) : (tkF s t.toNat 0 (tN s t a k)).2.2 = 0 ∧ (tkF s t.toNat 0 (tN s t a k)).1 < t.toNat := by
  have h1 := fE_1 (fE_le h k (by omega))
  rw [fE_le h (k + 1) (by omega)] at h1
  have := tk_bd s t.toNat 0 (tN s t a k) h1.symm
  exact ⟨h1.symm, by omega⟩
theorem pP_ok {s : ByteArray} {t a : Int} {n : Nat} (ht : 2 ≤ t ∧ t ≤ 6) (h : fE s t a n = 0) : okB (abc t.toNat).data.toList (pP s t a n) := fun k hk => by
  rw [pP_len] at hk
  have := tk_lt h k hk
  have hs := (abc_all t.toNat (by omega)).2.1
  rw [ByteArray.size, ← Array.length_toList] at hs
  rw [pP_at _ _ _ _ _ hk, hs]; omega
theorem pP_64 {s : ByteArray} {t a : Int} {n : Nat} (ht : 2 ≤ t ∧ t ≤ 6) (h : fE s t a n = 0) : In64 (pP s t a n) := fun x hx => by
  obtain ⟨k, hk, rfl⟩ := List.mem_map.1 hx
  have := tk_lt h k (List.mem_range.1 hk)
  omega
theorem pBk {s : ByteArray} {t a : Int} {n : Nat} (ht : 2 ≤ t ∧ t ≤ 6) (h : fE s t a n = 0) : backV (abc t.toNat) (pP s t a n) = (txS (abc t.toNat) (pP s t a n) n, 0) := by
  have := back_places (abc_right t.toNat (by omega)) (pP_ok ht h)
  rwa [pP_len] at this
/-- the numbers are the alphabet's bytes -/
theorem tL_bk {s : ByteArray} {t a : Int} {n : Nat} (ht : 2 ≤ t ∧ t ≤ 6) (h : fE s t a n = 0) : ∀ k, k ≤ n → tL s t a k = (bkL (abc t.toNat).data.toList (pP s t a n) k).map toI ++ List.replicate (6 - t.toNat) 0
  | 0, _ => by rw [tL_0, bkL_0, ini_abc t.toNat (by omega)]
  | k + 1, hk => by
    have ih := tL_bk ht h k (by omega)
    have h1 := tk_lt h k (by omega)
    have hl := bkL_len (abc t.toNat).data.toList (pP s t a n) k (fun j hj => pP_ok ht h j (by rw [pP_len]; omega))
    have hs := (abc_all t.toNat (by omega)).2.1
    rw [ByteArray.size, ← Array.length_toList] at hs
    rw [tL, tkL, if_pos h1.1, ih, mtf_map _ _ _ (by omega), bkL, pP_at _ _ _ _ _ (by omega), Int.toNat_natCast]
theorem tC_at {s : ByteArray} {t a : Int} : ∀ n k, k < n → (tC s t a n).getD k 0 = tkV (tL s t a k) (tkF s t.toNat 0 (tN s t a k))
  | 0, k, h => by omega
  | n + 1, k, h => by
    rw [tC]
    by_cases e : k = n
    · subst e
      rw [getD_lt _ k 0 (by rw [List.length_append, tC_len]; simp), List.getElem_append_right (by rw [tC_len]; omega)]
      simp [tC_len]
    · rw [← tC_at n k (by omega), getD_lt _ k 0 (by rw [List.length_append, tC_len]; omega), getD_lt _ k 0 (by rw [tC_len]; omega), List.getElem_append_left]
theorem tC_tx {s : ByteArray} {t a : Int} {n : Nat} (ht : 2 ≤ t ∧ t ≤ 6) (h : fE s t a n = 0) (k : Nat) (hk : k < n) : (tC s t a n).getD k 0 = ((bat (txS (abc t.toNat) (pP s t a n) n) (k : Int)).toNat : Int) := by
  have h1 := tk_lt h k hk
  have hl := bkL_len (abc t.toNat).data.toList (pP s t a n) k (fun j hj => pP_ok ht h j (by rw [pP_len]; omega))
  have hs := (abc_all t.toNat (by omega)).2.1
  rw [ByteArray.size, ← Array.length_toList] at hs
  rw [tC_at n k hk, tkV, if_pos h1.1, tL_bk ht h k (by omega), at_map _ _ _ (by omega), bat_list]
  show _ = toI ((txL (abc t.toNat).data.toList (pP s t a n) n).getD k 0)
  rw [txL_at _ _ n k hk, pP_at _ _ _ _ _ hk, Int.toNat_natCast]
theorem tC_step {s : ByteArray} {t a : Int} {n : Nat} (ht : 2 ≤ t ∧ t ≤ 6) (h : fE s t a n = 0) {m : Nat} (hm : m = n) (k : Nat) (hk : k < n) : ((tC s t a n).take k).map I64 ++ [I64 ((bat (txS (abc t.toNat) (pP s t a m) m) (k : Int)).toNat : Int)] = ((tC s t a n).take (k + 1)).map I64 := by
  subst hm
  rw [take_snoc (tC s t a m) k 0 (by rw [tC_len]; omega), tC_tx ht h k hk, List.map_append]; rfl
theorem rback_p {s : ByteArray} {t a : Int} {n : Nat} (ht : 2 ≤ t ∧ t ≤ 6) (hn : n ≤ 1048576) (h : fE s t a n = 0) : FPure Try.prog 28 [Is (.string ((⟨#[0, 1, 2, 3, 4, 5]⟩ : ByteArray).extract 0 t.toNat)), Sl 1 n ((pP s t a n).map I64)] (Tup [Is (.string (txS (abc t.toNat) (pP s t a n) n)), Is (.int .i64 0)]) := by
  have h1 := rback_s (abc t.toNat) (pP s t a n) (by rw [(abc_all t.toNat (by omega)).2.1]; omega) (by rw [pP_len]; omega) (pP_64 ht h)
  rw [pP_len, pBk ht h] at h1
  exact h1

set_option maxRecDepth 100000 in
set_option maxHeartbeats 1000000 in
theorem rtake_s (s : ByteArray) (a n t : Int) (hs : s.size ≤ 1000000000000) (ha : a ≤ 9223372036854775807)  :
    FPure Try.prog 14 [Is (.string s), Is (.int .i64 a), Is (.int .i64 n), Is (.int .i64 t)] (Tup [Sl 1 (takeV s a n t).1.length ((takeV s a n t).1.map (Value.int .i64)), Is (.int .i64 (takeV s a n t).2.1), Is (.int .i64 (takeV s a n t).2.2)]) := by
  refine FPure.of Try.func14 Try.ntmps14 rfl (by kernel_rfl) rfl rfl rfl ?_
  refine W_seq ?_
  refine W_regionE (c := 1) (c' := 4) (by kernel_rfl) rfl ?_
  refine Runs_p rfl (Valid.assignk (A := Is (.slice none 0 0)) rfl rfl) rfl rfl ?_ -- ref.go:55 assign
  refine Runs_p rfl (Valid.assignk (A := Is _) rfl rfl) rfl rfl ?_ -- ref.go:55 assign
  refine Runs_p rfl (Valid.assignk (A := Is _) rfl rfl) rfl rfl ?_ -- ref.go:55 assign
  refine Runs_nil ?_
  refine thenQ_n ?_
  refine W_seq ?_
  refine W_seq ?_
  refine W_regionE (c := 4) (c' := 22) (by kernel_rfl) rfl ?_
  refine Runs_p rfl (Valid.movek (A := Is _) rfl rfl) rfl rfl ?_ -- ref.go:56 move
  refine Runs_p rfl (Valid.lss rfl rfl rfl) rfl rfl ?_ -- ref.go:56 binOp
  refine Runs_p rfl (Valid.movek (A := Is _) rfl rfl) rfl rfl ?_ -- ref.go:56 move
  refine Runs_cnd rfl rfl (Grd.is rfl) [] (fun hg => trivial) (fun hg => Valid.movek (A := Is _) rfl rfl) (by rfl) rfl ?_
  refine Runs_cnd rfl rfl (Grd.is rfl) [(24, _)] (fun hg => ⟨cnd_at rfl (by first | exact hg | exact hg.1 | exact hg.1.1 | exact hg.1.1.1), trivial⟩) (fun hg => Valid.gtr rfl rfl rfl) (by rfl) rfl ?_
  refine Runs_p rfl (Valid.pickor rfl rfl rfl rfl (fun h => by first | exact h | exact ⟨hg, h⟩)) rfl rfl ?_ -- ref.go:56 pick
  refine Runs_p rfl (Valid.movek (A := Is _) rfl rfl) rfl rfl ?_ -- ref.go:56 move
  refine Runs_cnd rfl rfl (Grd.is rfl) [] (fun hg => trivial) (fun hg => Valid.movek (A := Is _) rfl rfl) (by rfl) rfl ?_
  refine Runs_cnd rfl rfl (Grd.is rfl) [(28, _)] (fun hg => ⟨cnd_at rfl (by first | exact hg | exact hg.1 | exact hg.1.1 | exact hg.1.1.1), trivial⟩) (fun hg => Valid.lss rfl rfl rfl) (by rfl) rfl ?_
  refine Runs_p rfl (Valid.pickor rfl rfl rfl rfl (fun h => by first | exact h | exact ⟨hg, h⟩)) rfl rfl ?_ -- ref.go:56 pick
  refine Runs_p rfl (Valid.movek (A := Is _) rfl rfl) rfl rfl ?_ -- ref.go:56 move
  refine Runs_cnd rfl rfl (Grd.is rfl) [] (fun hg => trivial) (fun hg => Valid.movek (A := Is _) rfl rfl) (by rfl) rfl ?_
  refine Runs_cnd rfl rfl (Grd.is rfl) [(32, _)] (fun hg => ⟨cnd_at rfl (by first | exact hg | exact hg.1 | exact hg.1.1 | exact hg.1.1.1), trivial⟩) (fun hg => Valid.lss rfl rfl rfl) (by rfl) rfl ?_
  refine Runs_p rfl (Valid.pickor rfl rfl rfl rfl (fun h => by first | exact h | exact ⟨hg, h⟩)) rfl rfl ?_ -- ref.go:56 pick
  refine Runs_p rfl (Valid.movek (A := Is _) rfl rfl) rfl rfl ?_ -- ref.go:56 move
  refine Runs_cnd rfl rfl (Grd.is rfl) [] (fun hg => trivial) (fun hg => Valid.movek (A := Is _) rfl rfl) (by rfl) rfl ?_
  refine Runs_cnd rfl rfl (Grd.is rfl) [(36, _)] (fun hg => ⟨cnd_at rfl (by first | exact hg | exact hg.1 | exact hg.1.1 | exact hg.1.1.1), trivial⟩) (fun hg => Valid.gtr rfl rfl rfl) (by rfl) rfl ?_
  refine Runs_p rfl (Valid.pickor rfl rfl rfl rfl (fun h => by first | exact h | exact ⟨hg, h⟩)) rfl rfl ?_ -- ref.go:56 pick
  refine Runs_nil ?_
  refine thenQ_n ?_
  refine W_cond _ rfl (fun hb1 => ?_) (fun hb1 => ?_)
  · try simp only [decide_eq_true_eq, Bool.or_eq_true] at hb1
    all_goals (
      refine W_seq ?_
      refine W_regionE (c := 22) (c' := 25) (by kernel_rfl) rfl ?_
      refine Runs_p rfl (Valid.assignk (A := Is (.slice none 0 0)) rfl rfl) rfl rfl ?_ -- ref.go:57 assign
      refine Runs_p rfl (Valid.assignk (A := Is _) rfl rfl) rfl rfl ?_ -- ref.go:57 assign
      refine Runs_p rfl (Valid.assignk (A := Is _) rfl rfl) rfl rfl ?_ -- ref.go:57 assign
      refine Runs_nil ?_
      refine thenQ_n ?_
      refine W_ret ?_
      refine thenQ_r ?_
      refine finQ_r ?_
      refine ResOk.three rfl (RVal.sl (Reads.nil rfl) rfl (by first | (rw [take_1 (by omega)]; rfl) | (rw [(take_e hall (k := k) (by omega) hk2 (by assumption))]; rfl) | (rw [(take_ok hall (k := n.toNat) rfl hk3), tC_len]; omega)) (by first | (rw [take_1 (by omega)]; rfl) | (rw [(take_e hall (k := k) (by omega) hk2 (by assumption))]; rfl) | (rw [(take_ok hall (k := n.toNat) rfl hk3), List.take_of_length_le (by rw [tC_len]; omega)]))) (RVal.is rfl rfl (by first | rw [take_1 (by omega)] | rw [(take_e hall (k := k) (by omega) hk2 (by assumption))] | (rw [(take_ok hall (k := n.toNat) rfl hk3)]; done) | (rw [(take_ok hall (k := n.toNat) rfl hk3), hkn]))) (RVal.is rfl rfl (by first | rw [take_1 (by omega)] | rw [(take_e hall (k := k) (by omega) hk2 (by assumption))] | (rw [(take_ok hall (k := n.toNat) rfl hk3)]; done) | (rw [(take_ok hall (k := n.toNat) rfl hk3), hkn])))
      done)
  · try simp only [decide_eq_false_iff_not, Bool.or_eq_false_iff] at hb1
    all_goals (
      refine W_skip ?_
      refine thenQ_n ?_
      refine W_seq ?_
      refine W_regionE (c := 22) (c' := 23) (by kernel_rfl) rfl ?_
      refine Runs_p rfl (Valid.assignk (A := Is (.slice none 0 0)) rfl rfl) rfl rfl ?_ -- ref.go:59 assign
      refine Runs_nil ?_
      refine thenQ_n ?_
      refine W_seq ?_
      refine W_regionE (c := 23) (c' := 25) (by kernel_rfl) rfl ?_
      refine Runs_p rfl (Valid.movek (A := Is _) rfl rfl) rfl rfl ?_ -- ref.go:60 move
      refine Runs_p rfl (Valid.assignk (A := Is _) rfl rfl) rfl rfl ?_ -- ref.go:60 assign
      refine Runs_nil ?_
      refine thenQ_n ?_
      refine W_seq ?_
      refine W_seq ?_
      refine W_regionE (c := 25) (c' := 26) (by kernel_rfl) rfl ?_
      refine Runs_p rfl (Valid.assignk (A := Is _) rfl rfl) rfl rfl ?_ -- ref.go:61 assign
      refine Runs_nil ?_
      refine thenQ_n ?_
      refine W_block ?_
      refine W.ent ?_ (Ent.ownnil 11 3 1 rfl)
      refine W_loopx (G := Nat) (fun (k : Nat) => (k : Int) ≤ n ∧ fE s t a k = 0) [(0, Is _), (2, Is _), (3, Is _)] (fun (k : Nat) => [(13, Is (.int .i64 (k : Int))), (12, Is (.int .i64 (tN s t a k))), (11, Own 208 1 k ((pP s t a k).map I64))]) [] (fun (k : Nat) => [(208, .row 3 1 k ((pP s t a k).map I64))]) 27 (fun (k : Nat) => n.toNat - k) (0) [] (⟨by omega, fE_0 _ _ _⟩) ⟨⟨(leq_is rfl rfl (by first | rfl | (rw [tN_0]) | (rw [pP_0]; rfl))), (leq_is rfl rfl (by first | rfl | (rw [tN_0]) | (rw [pP_0]; rfl))), (leq_own rfl rfl rfl (by first | rfl | (rw [tN_0]) | (rw [pP_0]; rfl)) (by first | rfl | (rw [tN_0]) | (rw [pP_0]; rfl))), trivial⟩, ⟨(leq_is rfl rfl rfl), (leq_is rfl rfl rfl), (leq_is rfl rfl rfl), trivial⟩, ⟨hp_row rfl (by first | rfl | (rw [tN_0]) | (rw [pP_0]; rfl)) (by first | rfl | (rw [tN_0]) | (rw [pP_0]; rfl)), trivial⟩, trivial, rfl, ⟨supg rfl, supg rfl, supg rfl, trivial⟩, ⟨supg rfl, supg rfl, supg rfl, trivial⟩, ⟨suph rfl rfl, trivial⟩, trivial, rfl, rfl⟩ ?_
      intro k hI1
      obtain ⟨hk1, hk2⟩ := hI1
      have hall : ¬ (t < 2 ∨ 6 < t ∨ a < 0 ∨ n < 0 ∨ 1048576 < n) := by omega
      have htn := tN_bd s t a (by omega) ha hs k hk2
      refine W_seq ?_
      refine W_seq ?_
      refine W_regionE (c := 27) (c' := 30) (by kernel_rfl) rfl ?_
      refine Runs_p rfl (Valid.movek (A := Is _) rfl rfl) rfl rfl ?_ -- ref.go:61 move
      refine Runs_p rfl (Valid.movek (A := Is _) rfl rfl) rfl rfl ?_ -- ref.go:61 move
      refine Runs_p rfl (Valid.lss rfl rfl rfl) rfl rfl ?_ -- ref.go:61 binOp
      refine Runs_nil ?_
      refine thenQ_n ?_
      refine W_cond _ rfl (fun hb2 => ?_) (fun hb2 => ?_)
      · try simp only [decide_eq_true_eq] at hb2
        all_goals (
          refine W_skip ?_
          refine thenQ_n ?_
          refine W_seq ?_
          refine W_block ?_
          refine W_seq ?_
          refine W_regionE (c := 30) (c' := 41) (by kernel_rfl) rfl ?_
          refine Runs_p rfl (Valid.movek (A := Is _) rfl rfl) rfl rfl ?_ -- ref.go:62 move
          refine Runs_p rfl (Valid.movek (A := Is _) rfl rfl) rfl rfl ?_ -- ref.go:62 move
          refine Runs_p rfl (Valid.movek (A := Is _) rfl rfl) rfl rfl ?_ -- ref.go:62 move
          refine Runs_p rfl (Valid.call rfl (place_r _ _ _ (by omega) (by omega) (by omega) (by omega)) ⟨argle rfl, argle rfl, argle rfl, trivial⟩) rfl rfl ?_ -- ref.go:62 call
          refine Runs_p rfl (Valid.movek (A := Tup [Is _, Is _, Is _]) rfl rfl) rfl rfl ?_ -- ref.go:62 move
          refine Runs_p rfl (Valid.extract _ rfl rfl rfl) rfl rfl ?_ -- ref.go:62 extract
          refine Runs_p rfl (Valid.extract _ rfl rfl rfl) rfl rfl ?_ -- ref.go:62 extract
          refine Runs_p rfl (Valid.extract _ rfl rfl rfl) rfl rfl ?_ -- ref.go:62 extract
          refine Runs_p rfl (Valid.assignk (A := Is _) rfl rfl) rfl rfl ?_ -- ref.go:62 assign
          refine Runs_p rfl (Valid.assignk (A := Is _) rfl rfl) rfl rfl ?_ -- ref.go:62 assign
          refine Runs_p rfl (Valid.assignk (A := Is _) rfl rfl) rfl rfl ?_ -- ref.go:62 assign
          refine Runs_nil ?_
          refine thenQ_n ?_
          refine W_seq ?_
          refine W_seq ?_
          refine W_regionE (c := 41) (c' := 43) (by kernel_rfl) rfl ?_
          refine Runs_p rfl (Valid.movek (A := Is _) rfl rfl) rfl rfl ?_ -- ref.go:63 move
          refine Runs_p rfl (Valid.neq rfl rfl rfl) rfl rfl ?_ -- ref.go:63 binOp
          refine Runs_nil ?_
          refine thenQ_n ?_
          refine W_cond _ rfl (fun hb3 => ?_) (fun hb3 => ?_)
          · try simp only [decide_eq_true_eq, ne_eq] at hb3
            all_goals (
              refine W_seq ?_
              refine W_regionE (c := 43) (c' := 47) (by kernel_rfl) rfl ?_
              refine Runs_p rfl (Valid.movek (A := Is _) rfl rfl) rfl rfl ?_ -- ref.go:64 move
              refine Runs_p rfl (Valid.assignk (A := Is (.slice none 0 0)) rfl rfl) rfl rfl ?_ -- ref.go:64 assign
              refine Runs_p rfl (Valid.assignk (A := Is _) rfl rfl) rfl rfl ?_ -- ref.go:64 assign
              refine Runs_p rfl (Valid.assignk (A := Is _) rfl rfl) rfl rfl ?_ -- ref.go:64 assign
              refine Runs_nil ?_
              refine thenQ_n ?_
              refine W_ret ?_
              refine thenQ_r ?_
              refine blockQ_r ?_
              refine thenQ_r ?_
              refine loopQ_r ?_
              refine blockQ_r ?_
              refine thenQ_r ?_
              refine finQ_r ?_
              refine ResOk.three rfl (RVal.sl (Reads.nil rfl) rfl (by first | (rw [take_1 (by omega)]; rfl) | (rw [(take_e hall (k := k) (by omega) hk2 (by assumption))]; rfl) | (rw [(take_ok hall (k := n.toNat) rfl hk3), tC_len]; omega)) (by first | (rw [take_1 (by omega)]; rfl) | (rw [(take_e hall (k := k) (by omega) hk2 (by assumption))]; rfl) | (rw [(take_ok hall (k := n.toNat) rfl hk3), List.take_of_length_le (by rw [tC_len]; omega)]))) (RVal.is rfl rfl (by first | rw [take_1 (by omega)] | rw [(take_e hall (k := k) (by omega) hk2 (by assumption))] | (rw [(take_ok hall (k := n.toNat) rfl hk3)]; done) | (rw [(take_ok hall (k := n.toNat) rfl hk3), hkn]))) (RVal.is rfl rfl (by first | rw [take_1 (by omega)] | rw [(take_e hall (k := k) (by omega) hk2 (by assumption))] | (rw [(take_ok hall (k := n.toNat) rfl hk3)]; done) | (rw [(take_ok hall (k := n.toNat) rfl hk3), hkn])))
              done)
          · try simp only [decide_eq_false_iff_not, ne_eq] at hb3
            all_goals (
              refine W_skip ?_
              refine thenQ_n ?_
              refine W_seq ?_
              refine W_regionE (c := 43) (c' := 48) (by kernel_rfl) rfl ?_
              refine Runs_p rfl (Valid.movek (A := Own 208 1 _ _) rfl rfl) rfl rfl ?_ -- ref.go:66 move
              refine Runs_p rfl (Valid.movek (A := Is _) rfl rfl) rfl rfl ?_ -- ref.go:66 move
              refine Runs_p rfl (Valid.lit (el := 3) [_] rfl rfl (fun _ => by kernel_rfl) rfl (by decide)) rfl rfl ?_ -- ref.go:66 buildSlice
              refine Runs_w rfl (Valid.app rfl Try.underlying22 ti3 (by decide) rfl rfl (Reads.sl rfl) (by first | exact one_map (fun _ => rfl) | exact one_cons rfl one_nil | exact one_app (one_map (fun _ => rfl)) (one_cons rfl one_nil) | exact one_app (one_map (fun _ => rfl)) (one_map (fun _ => rfl)) | exact one_rep rfl | exact one_app (one_rep rfl) (one_map (fun _ => rfl)) | (intro u hu; simp at hu; rcases hu with rfl | hu <;> first | rfl | (subst hu; rfl))) (by first | (simp only [maxLen]; omega) | (simp only [maxLen, Int.toNat_natCast, toNat_add, toNat_add1, List.length_append, List.length_cons, List.length_nil, List.length_replicate]; omega)) (by first | omega | (simp only [Int.toNat_natCast, toNat_add, toNat_add1, List.length_append, List.length_cons, List.length_nil, List.length_replicate]; omega))) rfl rfl ?_ -- ref.go:66 call
              refine Runs_p rfl (Valid.assignk (A := Own 368 1 _ _) rfl rfl) rfl rfl ?_ -- ref.go:66 assign
              refine Runs_nil ?_
              refine thenQ_n ?_
              refine W_regionE (c := 48) (c' := 50) (by kernel_rfl) rfl ?_
              refine Runs_p rfl (Valid.movek (A := Is _) rfl rfl) rfl rfl ?_ -- ref.go:67 move
              refine Runs_p rfl (Valid.assignk (A := Is _) rfl rfl) rfl rfl ?_ -- ref.go:67 assign
              refine Runs_nil ?_
              refine blockQ_n ?_
              refine thenQ_n ?_
              refine W_regionE (c := 50) (c' := 53) (by kernel_rfl) rfl ?_
              refine Runs_p rfl (Valid.movek (A := Is _) rfl rfl) rfl rfl ?_ -- ref.go:61 move
              refine Runs_p rfl (Valid.add rfl rfl rfl (room64 (by first | omega | (simp only [Int.toNat_natCast, toNat_add, toNat_add1, List.length_append, List.length_cons, List.length_nil, List.length_replicate]; omega)) (by first | omega | (simp only [Int.toNat_natCast, toNat_add, toNat_add1, List.length_append, List.length_cons, List.length_nil, List.length_replicate]; omega)))) rfl rfl ?_ -- ref.go:61 binOp
              refine Runs_p rfl (Valid.assignk (A := Is _) rfl rfl) rfl rfl ?_ -- ref.go:61 assign
              refine Runs_nil ?_
              refine LoopQ.next (k + 1) [(208, 368)] (⟨by omega, by rw [fE_1 hk2]; simpa using hb3⟩) (by first | omega | (dsimp only; omega)) ⟨⟨(leq_is rfl rfl (by first | rfl | exact congrArg (Value.int .i64) (tN_1 _ _ _ _) | exact pP_1 _ _ _ _)), (leq_is rfl rfl (by first | rfl | exact congrArg (Value.int .i64) (tN_1 _ _ _ _) | exact pP_1 _ _ _ _)), (leq_own rfl rfl rfl (by first | rfl | exact congrArg (Value.int .i64) (tN_1 _ _ _ _) | exact pP_1 _ _ _ _) (by first | rfl | exact congrArg (Value.int .i64) (tN_1 _ _ _ _) | exact pP_1 _ _ _ _)), trivial⟩, ⟨(leq_is rfl rfl rfl), (leq_is rfl rfl rfl), (leq_is rfl rfl rfl), trivial⟩, ⟨hp_row rfl (by first | rfl | exact congrArg (Value.int .i64) (tN_1 _ _ _ _) | exact pP_1 _ _ _ _) (by first | rfl | exact congrArg (Value.int .i64) (tN_1 _ _ _ _) | exact pP_1 _ _ _ _), trivial⟩, trivial, rfl, ⟨supg rfl, supg rfl, supg rfl, trivial⟩, ⟨supg rfl, supg rfl, supg rfl, trivial⟩, ⟨suph rfl rfl, trivial⟩, trivial, rfl, rfl⟩
              done)
          done)
      · try simp only [decide_eq_false_iff_not] at hb2
        all_goals (
          refine W_exit ?_
          refine thenQ_e ?_
          refine loopQ_e ?_
          refine blockQ_x ?_
          refine thenQ_n ?_
          refine W_seq ?_
          refine W_regionE (c := 30) (c' := 39) (by kernel_rfl) rfl ?_
          refine Runs_p rfl (Valid.movek (A := Is _) rfl rfl) rfl rfl ?_ -- ref.go:69 move
          refine Runs_p rfl (Valid.call rfl (alph_r _ (by omega)) ⟨argle rfl, trivial⟩) rfl rfl ?_ -- ref.go:69 call
          refine Runs_p rfl (Valid.movek (A := Own 208 1 _ _) rfl rfl) rfl rfl ?_ -- ref.go:69 move
          refine Runs_p rfl (Valid.call rfl (rback_p (by omega) (by omega) hk2) ⟨argle rfl, argle_sl (Reads.own rfl), trivial⟩) rfl rfl ?_ -- ref.go:69 call
          refine Runs_p rfl (Valid.movek (A := Tup [Is _, Is _]) rfl rfl) rfl rfl ?_ -- ref.go:69 move
          refine Runs_p rfl (Valid.extract _ rfl rfl rfl) rfl rfl ?_ -- ref.go:69 extract
          refine Runs_p rfl (Valid.extract _ rfl rfl rfl) rfl rfl ?_ -- ref.go:69 extract
          refine Runs_p rfl (Valid.assignk (A := Is _) rfl rfl) rfl rfl ?_ -- ref.go:69 assign
          refine Runs_p rfl (Valid.assignk (A := Is _) rfl rfl) rfl rfl ?_ -- ref.go:69 assign
          refine Runs_nil ?_
          refine thenQ_n ?_
          refine W_seq ?_
          refine W_regionE (c := 39) (c' := 40) (by kernel_rfl) rfl ?_
          refine Runs_p rfl (Valid.assignk (A := Is (.slice none 0 0)) rfl rfl) rfl rfl ?_ -- ref.go:70 assign
          refine Runs_nil ?_
          refine thenQ_n ?_
          refine W_seq ?_
          refine W_seq ?_
          refine W_regionE (c := 40) (c' := 41) (by kernel_rfl) rfl ?_
          refine Runs_p rfl (Valid.assignk (A := Is _) rfl rfl) rfl rfl ?_ -- ref.go:71 assign
          refine Runs_nil ?_
          refine thenQ_n ?_
          refine W_block ?_
          refine W.ent ?_ (Ent.ownnil 19 3 1 rfl)
          refine W_loopx (G := Nat) (fun (q : Nat) => q ≤ n.toNat) [(12, Is _), (17, Is _)] (fun (q : Nat) => [(20, Is (.int .i64 (q : Int))), (19, Own 328 1 q (((tC s t a n.toNat).take q).map I64))]) [] (fun (q : Nat) => [(328, .row 3 1 q (((tC s t a n.toNat).take q).map I64))]) 42 (fun (q : Nat) => n.toNat - q) (0) [] (by first | trivial | omega | (simp; omega)) ⟨⟨(leq_is rfl rfl (by first | rfl)), (leq_own rfl rfl rfl (by first | rfl) (by first | rfl)), trivial⟩, ⟨(leq_is rfl rfl rfl), (leq_is rfl rfl rfl), trivial⟩, ⟨hp_row rfl (by first | rfl) (by first | rfl), trivial⟩, trivial, rfl, ⟨supg rfl, supg rfl, trivial⟩, ⟨supg rfl, supg rfl, trivial⟩, ⟨suph rfl rfl, trivial⟩, trivial, rfl, rfl⟩ ?_
          intro q hI2
          have hkn : k = n.toNat := by omega
          have hk3 : fE s t a n.toNat = 0 := by rw [← hkn]; exact hk2
          have hts : (txS (abc t.toNat) (pP s t a k) k).size = k := txS_size _ _ _
          refine W_seq ?_
          refine W_seq ?_
          refine W_regionE (c := 42) (c' := 46) (by kernel_rfl) rfl ?_
          refine Runs_p rfl (Valid.movek (A := Is _) rfl rfl) rfl rfl ?_ -- ref.go:71 move
          refine Runs_p rfl (Valid.movek (A := Is _) rfl rfl) rfl rfl ?_ -- ref.go:71 move
          refine Runs_p rfl (Valid.slen rfl Try.underlying9 rfl) rfl rfl ?_ -- ref.go:71 call
          refine Runs_p rfl (Valid.lss rfl rfl rfl) rfl rfl ?_ -- ref.go:71 binOp
          refine Runs_nil ?_
          refine thenQ_n ?_
          refine W_cond _ rfl (fun hb4 => ?_) (fun hb4 => ?_)
          · try simp only [decide_eq_true_eq] at hb4
            all_goals (
              refine W_skip ?_
              refine thenQ_n ?_
              refine W_seq ?_
              refine W_block ?_
              refine W_regionE (c := 46) (c' := 54) (by kernel_rfl) rfl ?_
              refine Runs_p rfl (Valid.movek (A := Own 328 1 _ _) rfl rfl) rfl rfl ?_ -- ref.go:72 move
              refine Runs_p rfl (Valid.movek (A := Is _) rfl rfl) rfl rfl ?_ -- ref.go:72 move
              refine Runs_p rfl (Valid.movek (A := Is _) rfl rfl) rfl rfl ?_ -- ref.go:72 move
              refine Runs_p rfl (Valid.sindex rfl Try.underlying9 rfl rfl (by first | omega | (simp only [Int.toNat_natCast, toNat_add, toNat_add1, List.length_append, List.length_cons, List.length_nil, List.length_replicate]; omega))) rfl rfl ?_ -- ref.go:72 index
              refine Runs_p rfl (Valid.convr rfl rfl Try.underlying5 Try.underlying3 (room64 (by first | omega | (have hbb := (bat (txS (abc t.toNat) (pP s t a k) k) (q : Int)).toNat_lt; omega)) (by first | omega | (have hbb := (bat (txS (abc t.toNat) (pP s t a k) k) (q : Int)).toNat_lt; omega)))) rfl rfl ?_ -- ref.go:72 convert
              refine Runs_p rfl (Valid.lit (el := 3) [_] rfl rfl (fun _ => by kernel_rfl) rfl (by decide)) rfl rfl ?_ -- ref.go:72 buildSlice
              refine Runs_w rfl (Valid.app rfl Try.underlying22 ti3 (by decide) rfl rfl (Reads.sl rfl) (by first | exact one_map (fun _ => rfl) | exact one_cons rfl one_nil | exact one_app (one_map (fun _ => rfl)) (one_cons rfl one_nil) | exact one_app (one_map (fun _ => rfl)) (one_map (fun _ => rfl)) | exact one_rep rfl | exact one_app (one_rep rfl) (one_map (fun _ => rfl)) | (intro u hu; simp at hu; rcases hu with rfl | hu <;> first | rfl | (subst hu; rfl))) (by first | (simp only [maxLen]; omega) | (simp only [maxLen, Int.toNat_natCast, toNat_add, toNat_add1, List.length_append, List.length_cons, List.length_nil, List.length_replicate]; omega)) (by first | omega | (simp only [Int.toNat_natCast, toNat_add, toNat_add1, List.length_append, List.length_cons, List.length_nil, List.length_replicate]; omega))) rfl rfl ?_ -- ref.go:72 call
              refine Runs_p rfl (Valid.assignk (A := Own 416 1 _ _) rfl rfl) rfl rfl ?_ -- ref.go:72 assign
              refine Runs_nil ?_
              refine blockQ_n ?_
              refine thenQ_n ?_
              refine W_regionE (c := 54) (c' := 57) (by kernel_rfl) rfl ?_
              refine Runs_p rfl (Valid.movek (A := Is _) rfl rfl) rfl rfl ?_ -- ref.go:71 move
              refine Runs_p rfl (Valid.add rfl rfl rfl (room64 (by first | omega | (simp only [Int.toNat_natCast, toNat_add, toNat_add1, List.length_append, List.length_cons, List.length_nil, List.length_replicate]; omega)) (by first | omega | (simp only [Int.toNat_natCast, toNat_add, toNat_add1, List.length_append, List.length_cons, List.length_nil, List.length_replicate]; omega)))) rfl rfl ?_ -- ref.go:71 binOp
              refine Runs_p rfl (Valid.assignk (A := Is _) rfl rfl) rfl rfl ?_ -- ref.go:71 assign
              refine Runs_nil ?_
              refine LoopQ.next (q + 1) [(328, 416)] (by omega) (by first | omega | (dsimp only; omega)) ⟨⟨(leq_is rfl rfl (by first | rfl | exact tC_step (by omega) hk3 hkn q (by omega))), (leq_own rfl rfl rfl (by first | rfl | exact tC_step (by omega) hk3 hkn q (by omega)) (by first | rfl | exact tC_step (by omega) hk3 hkn q (by omega))), trivial⟩, ⟨(leq_is rfl rfl rfl), (leq_is rfl rfl rfl), trivial⟩, ⟨hp_row rfl (by first | rfl | exact tC_step (by omega) hk3 hkn q (by omega)) (by first | rfl | exact tC_step (by omega) hk3 hkn q (by omega)), trivial⟩, trivial, rfl, ⟨supg rfl, supg rfl, trivial⟩, ⟨supg rfl, supg rfl, trivial⟩, ⟨suph rfl rfl, trivial⟩, trivial, rfl, rfl⟩
              done)
          · try simp only [decide_eq_false_iff_not] at hb4
            all_goals (
              refine W_exit ?_
              refine thenQ_e ?_
              refine loopQ_e ?_
              refine blockQ_x ?_
              refine thenQ_n ?_
              refine W_seq ?_
              refine W_regionE (c := 46) (c' := 51) (by kernel_rfl) rfl ?_
              refine Runs_p rfl (Valid.movek (A := Own 328 1 _ _) rfl rfl) rfl rfl ?_ -- ref.go:74 move
              refine Runs_p rfl (Valid.movek (A := Is _) rfl rfl) rfl rfl ?_ -- ref.go:74 move
              refine Runs_p rfl (Valid.assignk (A := Own 328 1 _ _) rfl rfl) rfl rfl ?_ -- ref.go:74 assign
              refine Runs_p rfl (Valid.assignk (A := Is _) rfl rfl) rfl rfl ?_ -- ref.go:74 assign
              refine Runs_p rfl (Valid.assignk (A := Is _) rfl rfl) rfl rfl ?_ -- ref.go:74 assign
              refine Runs_nil ?_
              refine thenQ_n ?_
              refine W_ret ?_
              refine finQ_r ?_
              refine ResOk.three rfl (RVal.sl (Reads.own rfl) rfl (by first | (rw [take_1 (by omega)]; rfl) | (rw [(take_e hall (k := k) (by omega) hk2 (by assumption))]; rfl) | (rw [(take_ok hall (k := n.toNat) rfl hk3), tC_len]; omega)) (by first | (rw [take_1 (by omega)]; rfl) | (rw [(take_e hall (k := k) (by omega) hk2 (by assumption))]; rfl) | (rw [(take_ok hall (k := n.toNat) rfl hk3), List.take_of_length_le (by rw [tC_len]; omega)]))) (RVal.is rfl rfl (by first | rw [take_1 (by omega)] | rw [(take_e hall (k := k) (by omega) hk2 (by assumption))] | (rw [(take_ok hall (k := n.toNat) rfl hk3)]; done) | (rw [(take_ok hall (k := n.toNat) rfl hk3), hkn]))) (RVal.is rfl rfl (by first | rw [take_1 (by omega)] | rw [(take_e hall (k := k) (by omega) hk2 (by assumption))] | (rw [(take_ok hall (k := n.toNat) rfl hk3)]; done) | (rw [(take_ok hall (k := n.toNat) rfl hk3), hkn])))
              done)
          done)
      done)

/-- the numbers as bytes -/
def csB (c : List Int) (k : Nat) : List UInt8 := (c.take k).map fun v => UInt8.ofNat v.toNat
def csS (c : List Int) : ByteArray := ⟨(csB c c.length).toArray⟩
theorem csB_0 (c : List Int) : csB c 0 = [] := rfl
theorem csB_1 {c : List Int} {t : Int} {k : Nat} (hk : k < c.length) (h : 0 ≤ c.getD k 0 ∧ c.getD k 0 < t) (ht : t ≤ 6) : (csB c k).map B ++ [Value.int .u8 (c.getD (k : Int).toNat 0)] = (csB c (k + 1)).map B := by
  unfold csB
  rw [take_snoc c k 0 hk, List.map_append, List.map_append]
  congr 1
  show [Value.int .u8 (c.getD k 0)] = [Value.int .u8 ((UInt8.ofNat (c.getD k 0).toNat).toNat : Int)]
  rw [UInt8.toNat_ofNat', show ((((c.getD k 0).toNat % 2 ^ 8 : Nat) : Int)) = c.getD k 0 by omega]
theorem cs_size (c : List Int) : (csS c).size = c.length := by
  show (csB c c.length).toArray.size = _
  simp [csB]
theorem cs_at (c : List Int) (k : Nat) (hk : k < c.length) : bat (csS c) (k : Int) = UInt8.ofNat (c.getD k 0).toNat := by
  show (csB c c.length).getD k 0 = _
  rw [getD_lt _ k 0 (by simp [csB]; exact hk), getD_lt c k 0 hk]
  simp [csB]
theorem cs_in {c : List Int} {t : Int} (ht : 2 ≤ t ∧ t ≤ 6) (h : okC c t) : inA (abc t.toNat).data.toList (csS c) := fun k hk => by
  rw [cs_size] at hk
  have := h k hk
  rw [cs_at c k hk]
  exact abc_mem (by omega) (by omega)
theorem cs_toI {c : List Int} {t : Int} (ht : t ≤ 6) (h : okC c t) (k : Nat) (hk : k < c.length) : toI (bat (csS c) (k : Int)) = c.getD k 0 := by
  have := h k hk
  rw [cs_at c k hk, toI, UInt8.toNat_ofNat']; omega
theorem st_fr {c : List Int} {t : Int} (ht : 2 ≤ t ∧ t ≤ 6) (h : okC c t) : ∀ k, k ≤ c.length → stL (iniL t.toNat) c k = (frL (abc t.toNat).data.toList (csS c) k).map toI ++ List.replicate (6 - t.toNat) 0
  | 0, _ => by rw [stL_0, frL_0, ini_abc t.toNat (by omega)]
  | k + 1, hk => by
    have ih := st_fr ht h k (by omega)
    have hm : bat (csS c) (k : Int) ∈ frL (abc t.toNat).data.toList (csS c) k := (frL_perm k (fun j hj => cs_in ht h j (by rw [cs_size]; omega))).mem_iff.2 (cs_in ht h k (by rw [cs_size]; omega))
    have hx := idx_map _ (List.replicate (6 - t.toNat) 0) _ hm
    have hlt := idx_lt (frL (abc t.toNat).data.toList (csS c) k) (bat (csS c) (k : Int))
    rw [stL, ih, ← cs_toI ht.2 h k (by omega), mtf_map _ _ _ (by omega), ← frL_1, show Lib.indexByte (frL (abc t.toNat).data.toList (csS c) k) (bat (csS c) (k : Int)) = idx (frL (abc t.toNat).data.toList (csS c) k) (bat (csS c) (k : Int)) from rfl, ← hx, Int.toNat_natCast]
theorem st_pl {c : List Int} {t : Int} (ht : 2 ≤ t ∧ t ≤ 6) (h : okC c t) (k : Nat) (hk : k < c.length) : (plL (abc t.toNat).data.toList (csS c) c.length).getD k 0 = ((idxI (stL (iniL t.toNat) c k) (c.getD k 0) : Nat) : Int) := by
  have hm : bat (csS c) (k : Int) ∈ frL (abc t.toNat).data.toList (csS c) k := (frL_perm k (fun j hj => cs_in ht h j (by rw [cs_size]; omega))).mem_iff.2 (cs_in ht h k (by rw [cs_size]; omega))
  rw [plL_at _ _ _ _ hk, st_fr ht h k (by omega), ← cs_toI ht.2 h k hk, idx_map _ _ _ hm]
theorem rfront_p {c : List Int} {t : Int} {xs : ByteArray} (hx : xs = csS c) (ht : 2 ≤ t ∧ t ≤ 6) (hc : c.length ≤ 1000000) (h : okC c t) : FPure Try.prog 23 [Is (.string ((⟨#[0, 1, 2, 3, 4, 5]⟩ : ByteArray).extract 0 t.toNat)), Is (.string xs)] (Tup [Sl 1 c.length ((plL (abc t.toNat).data.toList (csS c) c.length).map I64), Is (.int .i64 0)]) := by
  subst hx
  have h1 := rfront_s (abc t.toNat) (csS c) (by rw [(abc_all t.toNat (by omega)).2.1]; omega) (by rw [cs_size]; omega)
  rw [front_in (abc_right t.toNat (by omega)) (cs_in ht h), cs_size] at h1
  simp only [plL_len] at h1
  exact h1
theorem cs_str {c : List Int} {k : Nat} (h : c.length ≤ k) : (⟨(csB c k).toArray⟩ : ByteArray) = csS c := by
  unfold csS csB
  rw [List.take_of_length_le h, List.take_of_length_le (Nat.le_refl _)]
def bsF (c : List Int) (t : Int) (k : Nat) : List Bool := (bsL (iniL t.toNat) c k).flatten
theorem bsF_0 (c : List Int) (t : Int) : bsF c t 0 = [] := by rw [bsF, bsL_0]; rfl
theorem bsF_len0 (c : List Int) (t : Int) : 0 = (bsF c t 0).length := by rw [bsF_0]; rfl
theorem bsF_1 (c : List Int) (t : Int) (k j : Nat) (h : j = idxI (stL (iniL t.toNat) c k) (c.getD k 0)) : (bsF c t k ++ List.replicate j true).map bI ++ [Value.int .i64 0] = (bsF c t (k + 1)).map bI := by
  subst h
  rw [bsF, bsF, bsL, List.flatten_append, List.map_append, List.map_append]
  simp [unB]; rfl
theorem bsF_1n (c : List Int) (t : Int) (k j : Nat) (h : j = idxI (stL (iniL t.toNat) c k) (c.getD k 0)) : (bsF c t k ++ List.replicate j true).length + 1 = (bsF c t (k + 1)).length := by
  have := congrArg List.length (bsF_1 c t k j h)
  simp only [List.length_append, List.length_map, List.length_cons, List.length_nil] at this ⊢
  omega
theorem bsF_le {c : List Int} {t : Int} (ht : 2 ≤ t ∧ t ≤ 6) (h : okC c t) (q : Nat) (hq : q ≤ c.length) : (bsF c t q).length ≤ 6 * q := bsL_flat ht q (fun j hj => h j (by omega))
theorem id_lt {c : List Int} {t : Int} (ht : 2 ≤ t ∧ t ≤ 6) (h : okC c t) (q : Nat) (hq : q < c.length) : idxI (stL (iniL t.toNat) c q) (c.getD q 0) < 6 := by
  have hk := h q hq
  have h1 := idxI_lt (st_mem ht (k := q) (fun j hj => h j (by omega)) hk.1 hk.2)
  have h2 := (st_inv ht q (fun j hj => h j (by omega))).length_eq
  rw [ini_len] at h2; omega
theorem one_1 (l : List Bool) (j : Nat) : (l ++ List.replicate j true).map bI ++ [Value.int .i64 1] = (l ++ List.replicate (j + 1) true).map bI := by
  rw [List.replicate_succ', ← List.append_assoc, List.map_append (l₁ := l ++ _)]; rfl
theorem one_1n (l : List Bool) (j : Nat) : (l ++ List.replicate j true).length + 1 = (l ++ List.replicate (j + 1) true).length := by simp; omega
theorem one_0 (l : List Bool) : l.map bI = (l ++ List.replicate 0 true).map bI := by simp
theorem one_0n (l : List Bool) : l.length = (l ++ List.replicate 0 true).length := by simp

set_option maxRecDepth 100000 in
set_option maxHeartbeats 1000000 in
theorem rput_s (c : List Int) (t : Int) (hc : c.length ≤ 1000000) (hci : In64 c) :
    FPure Try.prog 12 [Sl 1 c.length (c.map (Value.int .i64)), Is (.int .i64 t)] (Tup [Agg [Is (.string (putV c t).1.1), Is (.int .i64 (putV c t).1.2)], Is (.int .i64 (putV c t).2)]) := by
  refine FPure.of Try.func12 Try.ntmps12 rfl (by kernel_rfl) rfl rfl rfl ?_
  refine W_seq ?_
  refine W_regionE (c := 1) (c' := 3) (by kernel_rfl) rfl ?_
  refine Runs_w rfl (Valid.alloc [(Value.string ⟨#[]⟩), (Value.int .i64 0)] rfl zv28 rfl) rfl rfl ?_ -- ref.go:14 alloc
  refine Runs_p rfl (Valid.assignk (A := Is _) rfl rfl) rfl rfl ?_ -- ref.go:14 assign
  refine Runs_nil ?_
  refine thenQ_n ?_
  refine W_seq ?_
  refine W_seq ?_
  refine W_regionE (c := 3) (c' := 9) (by kernel_rfl) rfl ?_
  refine Runs_p rfl (Valid.movek (A := Is _) rfl rfl) rfl rfl ?_ -- ref.go:15 move
  refine Runs_p rfl (Valid.lss rfl rfl rfl) rfl rfl ?_ -- ref.go:15 binOp
  refine Runs_p rfl (Valid.movek (A := Is _) rfl rfl) rfl rfl ?_ -- ref.go:15 move
  refine Runs_cnd rfl rfl (Grd.is rfl) [] (fun hg => trivial) (fun hg => Valid.movek (A := Is _) rfl rfl) (by rfl) rfl ?_
  refine Runs_cnd rfl rfl (Grd.is rfl) [(16, _)] (fun hg => ⟨cnd_at rfl (by first | exact hg | exact hg.1 | exact hg.1.1 | exact hg.1.1.1), trivial⟩) (fun hg => Valid.gtr rfl rfl rfl) (by rfl) rfl ?_
  refine Runs_p rfl (Valid.pickor rfl rfl rfl rfl (fun h => by first | exact h | exact ⟨hg, h⟩)) rfl rfl ?_ -- ref.go:15 pick
  refine Runs_nil ?_
  refine thenQ_n ?_
  refine W_cond _ rfl (fun hb1 => ?_) (fun hb1 => ?_)
  · try simp only [decide_eq_true_eq, Bool.or_eq_true] at hb1
    all_goals (
      refine W_seq ?_
      refine W_regionE (c := 9) (c' := 12) (by kernel_rfl) rfl ?_
      refine Runs_p rfl (Valid.build [] [(Value.string ⟨#[]⟩), (Value.int .i64 0)] rfl rfl (fun _ => by kernel_rfl)) rfl rfl ?_ -- ref.go:16 build
      refine Runs_op rfl (Valid.storeagg (l := [_, _]) rfl sz28 rfl rfl (Nat.le_of_ble_eq_true rfl) rfl ⟨(One.is rfl rfl rfl), (One.is rfl rfl rfl), trivial⟩) rfl ?_ -- ref.go:16 store
      refine Runs_p rfl (Valid.assignk (A := Is _) rfl rfl) rfl rfl ?_ -- ref.go:16 assign
      refine Runs_nil ?_
      refine thenQ_n ?_
      refine W_ret ?_
      refine thenQ_r ?_
      refine finQ_r ?_
      refine ResOk.two rfl (RVal.cellagg ag28 sz28 rfl rfl (Nat.le_of_ble_eq_true rfl) (argle (by first | (rw [put_1 (by omega)]; rfl) | (rw [put_5 (by omega) k (by omega) (by omega)]; rfl) | (rw [put_0 (by omega) (hok (by omega)), putL, show c.length = q by omega]; rfl)))) (RVal.is rfl rfl (by first | (rw [put_1 (by omega)]; done) | (rw [put_5 (by omega) k (by omega) (by omega)]; done) | (rw [put_0 (by omega) (hok (by omega))])))
      done)
  · try simp only [decide_eq_false_iff_not, Bool.or_eq_false_iff] at hb1
    all_goals (
      refine W_skip ?_
      refine thenQ_n ?_
      refine W_seq ?_
      refine W_regionE (c := 9) (c' := 10) (by kernel_rfl) rfl ?_
      refine Runs_p rfl (Valid.assignk (A := Is (.slice none 0 0)) rfl rfl) rfl rfl ?_ -- ref.go:18 assign
      refine Runs_nil ?_
      refine thenQ_n ?_
      refine W_seq ?_
      refine W_seq ?_
      refine W_regionE (c := 10) (c' := 11) (by kernel_rfl) rfl ?_
      refine Runs_p rfl (Valid.assignk (A := Is _) rfl rfl) rfl rfl ?_ -- ref.go:19 assign
      refine Runs_nil ?_
      refine thenQ_n ?_
      refine W_block ?_
      refine W.ent ?_ (Ent.ownnil 6 5 1 rfl)
      refine W_loopx (G := Nat) (fun (k : Nat) => k ≤ c.length ∧ ∀ j, j < k → 0 ≤ c.getD j 0 ∧ c.getD j 0 < t) [(0, Sl 1 _ _), (1, Is _), (4, Ptr 8 0)] (fun (k : Nat) => [(7, Is (.int .i64 (k : Int))), (6, Own 88 1 k ((csB c k).map B))]) [(8, .var 28 [Is _, Is _])] (fun (k : Nat) => [(88, .row 5 1 k ((csB c k).map B))]) 12 (fun (k : Nat) => c.length - k) (0) [] (⟨by omega, fun j hj => by omega⟩) ⟨⟨(leq_is rfl rfl (by first | rfl)), (leq_own rfl rfl rfl (by first | rfl) (by first | rfl)), trivial⟩, ⟨(leq_sl (Reads.sl rfl) rfl rfl rfl), (leq_is rfl rfl rfl), (leq_ptr rfl rfl rfl), trivial⟩, ⟨hp_row rfl (by first | rfl) (by first | rfl), trivial⟩, ⟨hp_var rfl ⟨(leq_is rfl rfl rfl), (leq_is rfl rfl rfl), trivial⟩, trivial⟩, rfl, ⟨supg rfl, supg rfl, trivial⟩, ⟨supg rfl, supg rfl, supg rfl, trivial⟩, ⟨suph rfl rfl, trivial⟩, ⟨suph rfl rfl, trivial⟩, rfl, rfl⟩ ?_
      intro k hI1
      obtain ⟨hk1, hk2⟩ := hI1
      have hcc : c.getD (k : Int).toNat 0 = c.getD k 0 := rfl
      have hin := hci.at_ k
      have hok : c.length ≤ k → okC c t := fun h j hj => hk2 j (by omega)
      refine W_seq ?_
      refine W_seq ?_
      refine W_regionE (c := 12) (c' := 16) (by kernel_rfl) rfl ?_
      refine Runs_p rfl (Valid.movek (A := Is _) rfl rfl) rfl rfl ?_ -- ref.go:19 move
      refine Runs_p rfl (Valid.movek (A := Sl 1 _ _) rfl rfl) rfl rfl ?_ -- ref.go:19 move
      refine Runs_p rfl (Valid.len rfl Try.underlying22 (Reads.sl rfl)) rfl rfl ?_ -- ref.go:19 call
      refine Runs_p rfl (Valid.lss rfl rfl rfl) rfl rfl ?_ -- ref.go:19 binOp
      refine Runs_nil ?_
      refine thenQ_n ?_
      refine W_cond _ rfl (fun hb2 => ?_) (fun hb2 => ?_)
      · try simp only [decide_eq_true_eq] at hb2
        all_goals (
          refine W_skip ?_
          refine thenQ_n ?_
          refine W_seq ?_
          refine W_block ?_
          refine W_seq ?_
          refine W_seq ?_
          refine W_regionE (c := 16) (c' := 29) (by kernel_rfl) rfl ?_
          refine Runs_p rfl (Valid.movek (A := Sl 1 _ _) rfl rfl) rfl rfl ?_ -- ref.go:20 move
          refine Runs_p rfl (Valid.movek (A := Is _) rfl rfl) rfl rfl ?_ -- ref.go:20 move
          refine Runs_p rfl (Valid.eltaddr1 0 rfl Try.underlying22 sz3 (Reads.sl rfl) rfl (by first | omega | (simp only [Int.toNat_natCast, toNat_add, toNat_add1, List.length_append, List.length_cons, List.length_nil, List.length_replicate]; omega)) (by first | rfl | simp)) rfl rfl ?_ -- ref.go:20 indexAddr
          refine Runs_p rfl (Valid.loadelt rfl ag3 rfl) rfl rfl ?_ -- ref.go:20 load
          refine Runs_p rfl (Valid.lss rfl rfl rfl) rfl rfl ?_ -- ref.go:20 binOp
          refine Runs_p rfl (Valid.movek (A := Is _) rfl rfl) rfl rfl ?_ -- ref.go:20 move
          refine Runs_cnd rfl rfl (Grd.is rfl) [] (fun hg => trivial) (fun hg => Valid.movek (A := Sl 1 _ _) rfl rfl) (by rfl) rfl ?_
          refine Runs_cnd rfl rfl (Grd.is rfl) [] (fun hg => trivial) (fun hg => Valid.movek (A := Is _) rfl rfl) (by rfl) rfl ?_
          refine Runs_cnd rfl rfl (Grd.is rfl) [(32, _), (33, _)] (fun hg => ⟨cnd_at rfl (by first | exact hg | exact hg.1 | exact hg.1.1 | exact hg.1.1.1), cnd_at rfl (by first | exact hg | exact hg.1 | exact hg.1.1 | exact hg.1.1.1), trivial⟩) (fun hg => Valid.eltaddr1 0 rfl Try.underlying22 sz3 (Reads.sl rfl) rfl (by (try simp only [Int.toNat_natCast, decide_eq_false_iff_not] at hg); first | omega | (simp only [Int.toNat_natCast, toNat_add, toNat_add1, List.length_append, List.length_cons, List.length_nil, List.length_replicate]; omega)) (by first | rfl | simp)) (by rfl) rfl ?_
          refine Runs_cnd rfl rfl (Grd.is rfl) [(34, _)] (fun hg => ⟨cnd_at rfl (by first | exact hg | exact hg.1 | exact hg.1.1 | exact hg.1.1.1), trivial⟩) (fun hg => Valid.loadelt rfl ag3 rfl) (by rfl) rfl ?_
          refine Runs_cnd rfl rfl (Grd.is rfl) [] (fun hg => trivial) (fun hg => Valid.movek (A := Is _) rfl rfl) (by rfl) rfl ?_
          refine Runs_cnd rfl rfl (Grd.is rfl) [(35, _), (36, _)] (fun hg => ⟨cnd_at rfl (by first | exact hg | exact hg.1 | exact hg.1.1 | exact hg.1.1.1), cnd_at rfl (by first | exact hg | exact hg.1 | exact hg.1.1 | exact hg.1.1.1), trivial⟩) (fun hg => Valid.geq rfl rfl rfl) (by rfl) rfl ?_
          refine Runs_p rfl (Valid.pickor rfl rfl rfl rfl (fun h => by first | exact h | exact ⟨hg, h⟩)) rfl rfl ?_ -- ref.go:20 pick
          refine Runs_nil ?_
          refine thenQ_n ?_
          refine W_cond _ rfl (fun hb3 => ?_) (fun hb3 => ?_)
          · try simp only [Int.toNat_natCast, decide_eq_true_eq, Bool.or_eq_true] at hb3
            all_goals (
              refine W_seq ?_
              refine W_regionE (c := 29) (c' := 32) (by kernel_rfl) rfl ?_
              refine Runs_p rfl (Valid.build [] [(Value.string ⟨#[]⟩), (Value.int .i64 0)] rfl rfl (fun _ => by kernel_rfl)) rfl rfl ?_ -- ref.go:21 build
              refine Runs_op rfl (Valid.storeagg (l := [_, _]) rfl sz28 rfl rfl (Nat.le_of_ble_eq_true rfl) rfl ⟨(One.is rfl rfl rfl), (One.is rfl rfl rfl), trivial⟩) rfl ?_ -- ref.go:21 store
              refine Runs_p rfl (Valid.assignk (A := Is _) rfl rfl) rfl rfl ?_ -- ref.go:21 assign
              refine Runs_nil ?_
              refine thenQ_n ?_
              refine W_ret ?_
              refine thenQ_r ?_
              refine blockQ_r ?_
              refine thenQ_r ?_
              refine loopQ_r ?_
              refine blockQ_r ?_
              refine thenQ_r ?_
              refine finQ_r ?_
              refine ResOk.two rfl (RVal.cellagg ag28 sz28 rfl rfl (Nat.le_of_ble_eq_true rfl) (argle (by first | (rw [put_1 (by omega)]; rfl) | (rw [put_5 (by omega) k (by omega) (by omega)]; rfl) | (rw [put_0 (by omega) (hok (by omega)), putL, show c.length = q by omega]; rfl)))) (RVal.is rfl rfl (by first | (rw [put_1 (by omega)]; done) | (rw [put_5 (by omega) k (by omega) (by omega)]; done) | (rw [put_0 (by omega) (hok (by omega))])))
              done)
          · try simp only [Int.toNat_natCast, decide_eq_false_iff_not, Bool.or_eq_false_iff] at hb3
            all_goals (
              refine W_skip ?_
              refine thenQ_n ?_
              refine W_regionE (c := 29) (c' := 38) (by kernel_rfl) rfl ?_
              refine Runs_p rfl (Valid.movek (A := Own 88 1 _ _) rfl rfl) rfl rfl ?_ -- ref.go:23 move
              refine Runs_p rfl (Valid.movek (A := Sl 1 _ _) rfl rfl) rfl rfl ?_ -- ref.go:23 move
              refine Runs_p rfl (Valid.movek (A := Is _) rfl rfl) rfl rfl ?_ -- ref.go:23 move
              refine Runs_p rfl (Valid.eltaddr1 0 rfl Try.underlying22 sz3 (Reads.sl rfl) rfl (by first | omega | (simp only [Int.toNat_natCast, toNat_add, toNat_add1, List.length_append, List.length_cons, List.length_nil, List.length_replicate]; omega)) (by first | rfl | simp)) rfl rfl ?_ -- ref.go:23 indexAddr
              refine Runs_p rfl (Valid.loadelt rfl ag3 rfl) rfl rfl ?_ -- ref.go:23 load
              refine Runs_p rfl (Valid.convr rfl rfl Try.underlying3 Try.underlying5 (by unfold Room; rw [IntKind.wrap_u8]; omega)) rfl rfl ?_ -- ref.go:23 convert
              refine Runs_p rfl (Valid.lit (el := 5) [_] rfl rfl (fun _ => by kernel_rfl) rfl (by decide)) rfl rfl ?_ -- ref.go:23 buildSlice
              refine Runs_w rfl (Valid.app rfl Try.underlying32 ti5 (by decide) rfl rfl (Reads.sl rfl) (by first | exact one_map (fun _ => rfl) | exact one_cons rfl one_nil | exact one_app (one_map (fun _ => rfl)) (one_cons rfl one_nil) | exact one_app (one_map (fun _ => rfl)) (one_map (fun _ => rfl)) | exact one_rep rfl | exact one_app (one_rep rfl) (one_map (fun _ => rfl)) | (intro u hu; simp at hu; rcases hu with rfl | hu <;> first | rfl | (subst hu; rfl))) (by first | (simp only [maxLen]; omega) | (simp only [maxLen, Int.toNat_natCast, toNat_add, toNat_add1, List.length_append, List.length_cons, List.length_nil, List.length_replicate]; omega)) (by first | omega | (simp only [Int.toNat_natCast, toNat_add, toNat_add1, List.length_append, List.length_cons, List.length_nil, List.length_replicate]; omega))) rfl rfl ?_ -- ref.go:23 call
              refine Runs_p rfl (Valid.assignk (A := Own 288 1 _ _) rfl rfl) rfl rfl ?_ -- ref.go:23 assign
              refine Runs_nil ?_
              refine blockQ_n ?_
              refine thenQ_n ?_
              refine W_regionE (c := 38) (c' := 41) (by kernel_rfl) rfl ?_
              refine Runs_p rfl (Valid.movek (A := Is _) rfl rfl) rfl rfl ?_ -- ref.go:19 move
              refine Runs_p rfl (Valid.add rfl rfl rfl (room64 (by first | omega | (simp only [Int.toNat_natCast, toNat_add, toNat_add1, List.length_append, List.length_cons, List.length_nil, List.length_replicate]; omega)) (by first | omega | (simp only [Int.toNat_natCast, toNat_add, toNat_add1, List.length_append, List.length_cons, List.length_nil, List.length_replicate]; omega)))) rfl rfl ?_ -- ref.go:19 binOp
              refine Runs_p rfl (Valid.assignk (A := Is _) rfl rfl) rfl rfl ?_ -- ref.go:19 assign
              refine Runs_nil ?_
              refine LoopQ.next (k + 1) [(88, 288)] (⟨by omega, fun j hj => (by
                    by_cases e : j = k
                    · subst e; omega
                    · exact hk2 j (by omega))⟩) (by first | omega | (dsimp only; omega)) ⟨⟨(leq_is rfl rfl (by first | rfl | exact csB_1 (by omega) (t := t) (by omega) (by omega))), (leq_own rfl rfl rfl (by first | rfl | exact csB_1 (by omega) (t := t) (by omega) (by omega)) (by first | rfl | exact csB_1 (by omega) (t := t) (by omega) (by omega))), trivial⟩, ⟨(leq_sl (Reads.sl rfl) rfl rfl rfl), (leq_is rfl rfl rfl), (leq_ptr rfl rfl rfl), trivial⟩, ⟨hp_row rfl (by first | rfl | exact csB_1 (by omega) (t := t) (by omega) (by omega)) (by first | rfl | exact csB_1 (by omega) (t := t) (by omega) (by omega)), trivial⟩, ⟨hp_var rfl ⟨(leq_is rfl rfl rfl), (leq_is rfl rfl rfl), trivial⟩, trivial⟩, rfl, ⟨supg rfl, supg rfl, trivial⟩, ⟨supg rfl, supg rfl, supg rfl, trivial⟩, ⟨suph rfl rfl, trivial⟩, ⟨suph rfl rfl, trivial⟩, rfl, rfl⟩
              done)
          done)
      · try simp only [decide_eq_false_iff_not] at hb2
        all_goals (
          refine W_exit ?_
          refine thenQ_e ?_
          refine loopQ_e ?_
          refine blockQ_x ?_
          refine thenQ_n ?_
          refine W_seq ?_
          refine W_drawE (c := 16) (c' := 26) (by kernel_rfl) rfl ?_
          refine Runs_p rfl (Valid.movek (A := Is _) rfl rfl) rfl rfl ?_ -- ref.go:25 move
          refine Runs_p rfl (Valid.call rfl (alph_r _ (by omega)) ⟨argle rfl, trivial⟩) rfl rfl ?_ -- ref.go:25 call
          refine Runs_p rfl (Valid.movek (A := Own 88 1 _ _) rfl rfl) rfl rfl ?_ -- ref.go:25 move
          refine Runs_p rfl (Valid.tostring rfl Try.underlying32 Try.underlying5 Try.underlying9 (Reads.own rfl)) rfl rfl ?_ -- ref.go:25 convert
          refine Runs_p rfl (Valid.call rfl (rfront_p (cs_str (by omega)) (by omega) (by omega) (hok (by omega))) ⟨argle rfl, argle rfl, trivial⟩) rfl rfl ?_ -- ref.go:25 call
          refine Runs_p rfl (Valid.movek (A := Tup [Sl 1 _ _, Is _]) rfl rfl) rfl rfl ?_ -- ref.go:25 move
          refine Runs_p rfl (Valid.extract _ rfl rfl rfl) rfl rfl ?_ -- ref.go:25 extract
          refine Runs_p rfl (Valid.extract _ rfl rfl rfl) rfl rfl ?_ -- ref.go:25 extract
          refine Runs_p rfl (Valid.assignk (A := Sl 1 _ _) rfl rfl) rfl rfl ?_ -- ref.go:25 assign
          refine Runs_p rfl (Valid.assignk (A := Is _) rfl rfl) rfl rfl ?_ -- ref.go:25 assign
          refine Runs_nil ?_
          refine ⟨_, _, rfl, rfl, by kernel_rfl, ?_⟩
          refine thenQ_n ?_
          refine W_seq ?_
          refine W_regionE (c := 26) (c' := 27) (by kernel_rfl) rfl ?_
          refine Runs_p rfl (Valid.assignk (A := Is (.slice none 0 0)) rfl rfl) rfl rfl ?_ -- ref.go:26 assign
          refine Runs_nil ?_
          refine thenQ_n ?_
          refine W_seq ?_
          refine W_seq ?_
          refine W_regionE (c := 27) (c' := 28) (by kernel_rfl) rfl ?_
          refine Runs_p rfl (Valid.assignk (A := Is _) rfl rfl) rfl rfl ?_ -- ref.go:27 assign
          refine Runs_nil ?_
          refine thenQ_n ?_
          refine W_block ?_
          refine W.ent ?_ (Ent.ownnil 10 3 1 rfl)
          refine W_loopx (G := Nat) (fun (q : Nat) => q ≤ c.length) [(4, Ptr 8 0), (8, Sl 1 _ _)] (fun (q : Nat) => [(11, Is (.int .i64 (q : Int))), (10, Own 224 1 (bsF c t q).length ((bsF c t q).map bI))]) [(8, .var 28 [Is _, Is _])] (fun (q : Nat) => [(224, .row 3 1 (bsF c t q).length ((bsF c t q).map bI))]) 29 (fun (q : Nat) => c.length - q) (0) [] (by first | trivial | omega | (simp; omega)) ⟨⟨(leq_is rfl rfl (by first | rfl | exact bsF_len0 c t | (rw [bsF_0]; rfl))), (leq_own rfl rfl rfl (by first | rfl | exact bsF_len0 c t | (rw [bsF_0]; rfl)) (by first | rfl | exact bsF_len0 c t | (rw [bsF_0]; rfl))), trivial⟩, ⟨(leq_ptr rfl rfl rfl), (leq_sl (Reads.sl rfl) rfl rfl rfl), trivial⟩, ⟨hp_row rfl (by first | rfl | exact bsF_len0 c t | (rw [bsF_0]; rfl)) (by first | rfl | exact bsF_len0 c t | (rw [bsF_0]; rfl)), trivial⟩, ⟨hp_var rfl ⟨(leq_is rfl rfl rfl), (leq_is rfl rfl rfl), trivial⟩, trivial⟩, rfl, ⟨supg rfl, supg rfl, trivial⟩, ⟨supg rfl, supg rfl, trivial⟩, ⟨suph rfl rfl, trivial⟩, ⟨suph rfl rfl, trivial⟩, rfl, rfl⟩ ?_
          intro q hI2
          have hfl := bsF_le (t := t) (by omega) (hok (by omega)) q hI2
          have hpl := plL_len (abc t.toNat).data.toList (csS c) c.length
          refine W_seq ?_
          refine W_seq ?_
          refine W_regionE (c := 29) (c' := 33) (by kernel_rfl) rfl ?_
          refine Runs_p rfl (Valid.movek (A := Is _) rfl rfl) rfl rfl ?_ -- ref.go:27 move
          refine Runs_p rfl (Valid.movek (A := Sl 1 _ _) rfl rfl) rfl rfl ?_ -- ref.go:27 move
          refine Runs_p rfl (Valid.len rfl Try.underlying22 (Reads.sl rfl)) rfl rfl ?_ -- ref.go:27 call
          refine Runs_p rfl (Valid.lss rfl rfl rfl) rfl rfl ?_ -- ref.go:27 binOp
          refine Runs_nil ?_
          refine thenQ_n ?_
          refine W_cond _ rfl (fun hb4 => ?_) (fun hb4 => ?_)
          · try simp only [decide_eq_true_eq] at hb4
            all_goals (
              refine W_skip ?_
              refine thenQ_n ?_
              refine W_seq ?_
              refine W_block ?_
              refine W_seq ?_
              refine W_seq ?_
              refine W_regionE (c := 33) (c' := 34) (by kernel_rfl) rfl ?_
              refine Runs_p rfl (Valid.assignk (A := Is _) rfl rfl) rfl rfl ?_ -- ref.go:28 assign
              refine Runs_nil ?_
              refine thenQ_n ?_
              refine W_block ?_
              refine W_loopx (G := Nat) (fun (j : Nat) => j ≤ idxI (stL (iniL t.toNat) c q) (c.getD q 0)) [(4, Ptr 8 0), (8, Sl 1 _ _), (11, Is _)] (fun (j : Nat) => [(12, Is (.int .i64 (j : Int))), (10, Own 224 1 (bsF c t q ++ List.replicate j true).length ((bsF c t q ++ List.replicate j true).map bI))]) [(8, .var 28 [Is _, Is _])] (fun (j : Nat) => [(224, .row 3 1 (bsF c t q ++ List.replicate j true).length ((bsF c t q ++ List.replicate j true).map bI))]) 34 (fun (j : Nat) => idxI (stL (iniL t.toNat) c q) (c.getD q 0) - j) (0) [] (by first | trivial | omega | (simp; omega)) ⟨⟨(leq_is rfl rfl (by first | rfl | exact one_0 _ | exact one_0n _)), (leq_own rfl rfl rfl (by first | rfl | exact one_0 _ | exact one_0n _) (by first | rfl | exact one_0 _ | exact one_0n _)), trivial⟩, ⟨(leq_ptr rfl rfl rfl), (leq_sl (Reads.sl rfl) rfl rfl rfl), (leq_is rfl rfl rfl), trivial⟩, ⟨hp_row rfl (by first | rfl | exact one_0 _ | exact one_0n _) (by first | rfl | exact one_0 _ | exact one_0n _), trivial⟩, ⟨hp_var rfl ⟨(leq_is rfl rfl rfl), (leq_is rfl rfl rfl), trivial⟩, trivial⟩, rfl, ⟨supg rfl, supg rfl, trivial⟩, ⟨supg rfl, supg rfl, supg rfl, trivial⟩, ⟨suph rfl rfl, trivial⟩, ⟨suph rfl rfl, trivial⟩, rfl, rfl⟩ ?_
              intro j hI3
              have hst := st_pl (t := t) (by omega) (hok (by omega)) q (by omega)
              have hid := id_lt (t := t) (by omega) (hok (by omega)) q (by omega)
              have hfl := bsF_le (t := t) (by omega) (hok (by omega)) q (by omega)
              have hqq : ((q : Int)).toNat = q := rfl
              have hjl : (bsF c t q ++ List.replicate j true).length = (bsF c t q).length + j := by simp
              refine W_seq ?_
              refine W_seq ?_
              refine W_regionE (c := 34) (c' := 40) (by kernel_rfl) rfl ?_
              refine Runs_p rfl (Valid.movek (A := Is _) rfl rfl) rfl rfl ?_ -- ref.go:28 move
              refine Runs_p rfl (Valid.movek (A := Sl 1 _ _) rfl rfl) rfl rfl ?_ -- ref.go:28 move
              refine Runs_p rfl (Valid.movek (A := Is _) rfl rfl) rfl rfl ?_ -- ref.go:28 move
              refine Runs_p rfl (Valid.eltaddr1 0 rfl Try.underlying22 sz3 (Reads.sl rfl) rfl (by first | omega | (simp only [Int.toNat_natCast, toNat_add, toNat_add1, List.length_append, List.length_cons, List.length_nil, List.length_replicate]; omega)) (by first | (rw [List.length_map, plL_len]) | (rw [plL_len, List.length_map]) | (simp [plL_len]))) rfl rfl ?_ -- ref.go:28 indexAddr
              refine Runs_p rfl (Valid.loadelt rfl ag3 rfl) rfl rfl ?_ -- ref.go:28 load
              refine Runs_p rfl (Valid.lss rfl rfl rfl) rfl rfl ?_ -- ref.go:28 binOp
              refine Runs_nil ?_
              refine thenQ_n ?_
              refine W_cond _ rfl (fun hb5 => ?_) (fun hb5 => ?_)
              · try simp only [Int.toNat_natCast, decide_eq_true_eq] at hb5
                all_goals (
                  refine W_skip ?_
                  refine thenQ_n ?_
                  refine W_seq ?_
                  refine W_block ?_
                  refine W_regionE (c := 40) (c' := 44) (by kernel_rfl) rfl ?_
                  refine Runs_p rfl (Valid.movek (A := Own 224 1 _ _) rfl rfl) rfl rfl ?_ -- ref.go:29 move
                  refine Runs_p rfl (Valid.lit (el := 3) [_] rfl rfl (fun _ => by kernel_rfl) rfl (by decide)) rfl rfl ?_ -- ref.go:29 buildSlice
                  refine Runs_w rfl (Valid.app rfl Try.underlying22 ti3 (by decide) rfl rfl (Reads.sl rfl) (by first | exact one_map (fun _ => rfl) | exact one_cons rfl one_nil | exact one_app (one_map (fun _ => rfl)) (one_cons rfl one_nil) | exact one_app (one_map (fun _ => rfl)) (one_map (fun _ => rfl)) | exact one_rep rfl | exact one_app (one_rep rfl) (one_map (fun _ => rfl)) | (intro u hu; simp at hu; rcases hu with rfl | hu <;> first | rfl | (subst hu; rfl))) (by first | (simp only [maxLen]; omega) | (simp only [maxLen, Int.toNat_natCast, toNat_add, toNat_add1, List.length_append, List.length_cons, List.length_nil, List.length_replicate]; omega)) (by first | omega | (simp only [Int.toNat_natCast, toNat_add, toNat_add1, List.length_append, List.length_cons, List.length_nil, List.length_replicate]; omega))) rfl rfl ?_ -- ref.go:29 call
                  refine Runs_p rfl (Valid.assignk (A := Own 336 1 _ _) rfl rfl) rfl rfl ?_ -- ref.go:29 assign
                  refine Runs_nil ?_
                  refine blockQ_n ?_
                  refine thenQ_n ?_
                  refine W_regionE (c := 44) (c' := 47) (by kernel_rfl) rfl ?_
                  refine Runs_p rfl (Valid.movek (A := Is _) rfl rfl) rfl rfl ?_ -- ref.go:28 move
                  refine Runs_p rfl (Valid.add rfl rfl rfl (room64 (by first | omega | (simp only [Int.toNat_natCast, toNat_add, toNat_add1, List.length_append, List.length_cons, List.length_nil, List.length_replicate]; omega)) (by first | omega | (simp only [Int.toNat_natCast, toNat_add, toNat_add1, List.length_append, List.length_cons, List.length_nil, List.length_replicate]; omega)))) rfl rfl ?_ -- ref.go:28 binOp
                  refine Runs_p rfl (Valid.assignk (A := Is _) rfl rfl) rfl rfl ?_ -- ref.go:28 assign
                  refine Runs_nil ?_
                  refine LoopQ.next (j + 1) [(224, 336)] (by omega) (by first | omega | (dsimp only; omega)) ⟨⟨(leq_is rfl rfl (by first | rfl | exact one_1 _ _ | exact one_1n _ _)), (leq_own rfl rfl rfl (by first | rfl | exact one_1 _ _ | exact one_1n _ _) (by first | rfl | exact one_1 _ _ | exact one_1n _ _)), trivial⟩, ⟨(leq_ptr rfl rfl rfl), (leq_sl (Reads.sl rfl) rfl rfl rfl), (leq_is rfl rfl rfl), trivial⟩, ⟨hp_row rfl (by first | rfl | exact one_1 _ _ | exact one_1n _ _) (by first | rfl | exact one_1 _ _ | exact one_1n _ _), trivial⟩, ⟨hp_var rfl ⟨(leq_is rfl rfl rfl), (leq_is rfl rfl rfl), trivial⟩, trivial⟩, rfl, ⟨supg rfl, supg rfl, trivial⟩, ⟨supg rfl, supg rfl, supg rfl, trivial⟩, ⟨suph rfl rfl, trivial⟩, ⟨suph rfl rfl, trivial⟩, rfl, rfl⟩
                  done)
              · try simp only [Int.toNat_natCast, decide_eq_false_iff_not] at hb5
                all_goals (
                  refine W_exit ?_
                  refine thenQ_e ?_
                  refine loopQ_e ?_
                  refine blockQ_x ?_
                  refine thenQ_n ?_
                  refine W_regionE (c := 40) (c' := 44) (by kernel_rfl) rfl ?_
                  refine Runs_p rfl (Valid.movek (A := Own 224 1 _ _) rfl rfl) rfl rfl ?_ -- ref.go:31 move
                  refine Runs_p rfl (Valid.lit (el := 3) [_] rfl rfl (fun _ => by kernel_rfl) rfl (by decide)) rfl rfl ?_ -- ref.go:31 buildSlice
                  refine Runs_w rfl (Valid.app rfl Try.underlying22 ti3 (by decide) rfl rfl (Reads.sl rfl) (by first | exact one_map (fun _ => rfl) | exact one_cons rfl one_nil | exact one_app (one_map (fun _ => rfl)) (one_cons rfl one_nil) | exact one_app (one_map (fun _ => rfl)) (one_map (fun _ => rfl)) | exact one_rep rfl | exact one_app (one_rep rfl) (one_map (fun _ => rfl)) | (intro u hu; simp at hu; rcases hu with rfl | hu <;> first | rfl | (subst hu; rfl))) (by first | (simp only [maxLen]; omega) | (simp only [maxLen, Int.toNat_natCast, toNat_add, toNat_add1, List.length_append, List.length_cons, List.length_nil, List.length_replicate]; omega)) (by first | omega | (simp only [Int.toNat_natCast, toNat_add, toNat_add1, List.length_append, List.length_cons, List.length_nil, List.length_replicate]; omega))) rfl rfl ?_ -- ref.go:31 call
                  refine Runs_p rfl (Valid.assignk (A := Own 336 1 _ _) rfl rfl) rfl rfl ?_ -- ref.go:31 assign
                  refine Runs_nil ?_
                  refine blockQ_n ?_
                  refine thenQ_n ?_
                  refine W_regionE (c := 44) (c' := 47) (by kernel_rfl) rfl ?_
                  refine Runs_p rfl (Valid.movek (A := Is _) rfl rfl) rfl rfl ?_ -- ref.go:27 move
                  refine Runs_p rfl (Valid.add rfl rfl rfl (room64 (by first | omega | (simp only [Int.toNat_natCast, toNat_add, toNat_add1, List.length_append, List.length_cons, List.length_nil, List.length_replicate]; omega)) (by first | omega | (simp only [Int.toNat_natCast, toNat_add, toNat_add1, List.length_append, List.length_cons, List.length_nil, List.length_replicate]; omega)))) rfl rfl ?_ -- ref.go:27 binOp
                  refine Runs_p rfl (Valid.assignk (A := Is _) rfl rfl) rfl rfl ?_ -- ref.go:27 assign
                  refine Runs_nil ?_
                  refine LoopQ.next (q + 1) [(224, 336)] (by omega) (by first | omega | (dsimp only; omega)) ⟨⟨(leq_is rfl rfl (by first | rfl | exact bsF_1 _ _ _ _ (by omega) | exact bsF_1n _ _ _ _ (by omega))), (leq_own rfl rfl rfl (by first | rfl | exact bsF_1 _ _ _ _ (by omega) | exact bsF_1n _ _ _ _ (by omega)) (by first | rfl | exact bsF_1 _ _ _ _ (by omega) | exact bsF_1n _ _ _ _ (by omega))), trivial⟩, ⟨(leq_ptr rfl rfl rfl), (leq_sl (Reads.sl rfl) rfl rfl rfl), trivial⟩, ⟨hp_row rfl (by first | rfl | exact bsF_1 _ _ _ _ (by omega) | exact bsF_1n _ _ _ _ (by omega)) (by first | rfl | exact bsF_1 _ _ _ _ (by omega) | exact bsF_1n _ _ _ _ (by omega)), trivial⟩, ⟨hp_var rfl ⟨(leq_is rfl rfl rfl), (leq_is rfl rfl rfl), trivial⟩, trivial⟩, rfl, ⟨supg rfl, supg rfl, trivial⟩, ⟨supg rfl, supg rfl, trivial⟩, ⟨suph rfl rfl, trivial⟩, ⟨suph rfl rfl, trivial⟩, rfl, rfl⟩
                  done)
              done)
          · try simp only [decide_eq_false_iff_not] at hb4
            all_goals (
              refine W_exit ?_
              refine thenQ_e ?_
              refine loopQ_e ?_
              refine blockQ_x ?_
              refine thenQ_n ?_
              refine W_seq ?_
              refine W_regionE (c := 33) (c' := 37) (by kernel_rfl) rfl ?_
              refine Runs_p rfl (Valid.movek (A := Own 224 1 _ _) rfl rfl) rfl rfl ?_ -- ref.go:33 move
              refine Runs_p rfl (Valid.call rfl (of_t (b := bsF c t q) (by omega) rfl rfl) ⟨argle_sl (Reads.own rfl), trivial⟩) rfl rfl ?_ -- ref.go:33 call
              refine Runs_op rfl (Valid.storeagg (l := [_, _]) rfl sz28 rfl rfl (Nat.le_of_ble_eq_true rfl) rfl ⟨(One.is rfl rfl rfl), (One.is rfl rfl rfl), trivial⟩) rfl ?_ -- ref.go:33 store
              refine Runs_p rfl (Valid.assignk (A := Is _) rfl rfl) rfl rfl ?_ -- ref.go:33 assign
              refine Runs_nil ?_
              refine thenQ_n ?_
              refine W_ret ?_
              refine finQ_r ?_
              refine ResOk.two rfl (RVal.cellagg ag28 sz28 rfl rfl (Nat.le_of_ble_eq_true rfl) (argle (by first | (rw [put_1 (by omega)]; rfl) | (rw [put_5 (by omega) k (by omega) (by omega)]; rfl) | (rw [put_0 (by omega) (hok (by omega)), putL, show c.length = q by omega]; rfl)))) (RVal.is rfl rfl (by first | (rw [put_1 (by omega)]; done) | (rw [put_5 (by omega) k (by omega) (by omega)]; done) | (rw [put_0 (by omega) (hok (by omega))])))
              done)
          done)
      done)
end Eg
end Go.Proofs.Ytkjmdnehlodihaa
