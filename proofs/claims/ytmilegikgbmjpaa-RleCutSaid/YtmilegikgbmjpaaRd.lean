/-
  WALKS of stage 4: Pack and Unpack.
-/
import Derived.Test.YtmilegikgbmjpaaRows
import Derived.Test.YtmilegikgbmjpaaRc
namespace Go.Proofs.Ytmilegikgbmjpaa
open Go.RowKit
namespace Rd
open Ab Rl Rl Ra Rb Rc
theorem ag40 (w : World) : (isAgg 40).run Try.prog w = .ok false w := by kernel_rfl
theorem ag49 (w : World) : (isAgg 49).run Try.prog w = .ok false w := by kernel_rfl
theorem sz40 (w : World) : (sizeOf 40).run Try.prog w = .ok 1 w := by kernel_rfl
theorem sz49 (w : World) : (sizeOf 49).run Try.prog w = .ok 1 w := by kernel_rfl
theorem tm5 : (Try.prog.info? 5).map (fun i => (i.zero, i.size, i.bytes)) = some (some (Value.int .u8 0), 1, 1) := by kernel_rfl
theorem zv40 (w : World) : (zeroValue 40).run Try.prog w = .ok (Value.slice none 0 0) w := by kernel_rfl
theorem zv45 (w : World) : (zeroValue 45).run Try.prog w = .ok (.agg #[(Value.pointer none), (Value.slice none 0 0)]) w := by kernel_rfl
theorem zv49 (w : World) : (zeroValue 49).run Try.prog w = .ok Value.nilFunc w := by kernel_rfl
def packK (l : List UInt8) (k : Nat) : List UInt8 := ((pcs l).take k).flatMap encP
theorem pnn {k : Nat} {n : Int} (h : 1 ≤ n) : (decide (0 < k) || decide (0 < min n 4)) = decide (0 < k + 1) := by
  rw [decide_eq_true (show 0 < min n 4 by omega), decide_eq_true (show 0 < k + 1 by omega), Bool.or_true]
theorem pny {k : Nat} {b : Bool} : (b || decide ((0 : Int) < 1)) = decide (0 < k + 1) := by
  rw [decide_eq_true (show (0 : Int) < 1 by omega), decide_eq_true (show 0 < k + 1 by omega), Bool.or_true]
def packV (s : ByteArray) : ByteArray := ⟨(packL s.data.toList).toArray⟩
theorem packK_len (l : List UInt8) (k : Nat) : (packK l k).length ≤ 5 * k := by
  rw [packK, pack_len]; exact sumT_le _ _
theorem packK_end (l : List UInt8) : packK l (pcs l).length = packL l := by rw [packK, List.take_length]; rfl
theorem pk_y {l : List UInt8} {k : Nat} (hk : k < (pcs l).length) (h4 : 4 ≤ (((pcs l).getD k (0, 0)).2 : Int)) : (packK l k ++ List.replicate (min (((pcs l).getD k (0, 0)).2 : Int) 4).toNat (u8 (((pcs l).getD k (0, 0)).1.toNat : Int))) ++ List.replicate (1 : Int).toNat (u8 ((((pcs l).getD k (0, 0)).2 : Int) - 4)) = packK l (k + 1) := by
  rw [packK, packK, flat_succ encP _ (0, 0) hk, encP, if_pos (by omega), u8_nat, show (min (((pcs l).getD k (0, 0)).2 : Int) 4).toNat = min ((pcs l).getD k (0, 0)).2 4 by omega, List.append_assoc]
  rfl
theorem pk_n {l : List UInt8} {k : Nat} (hk : k < (pcs l).length) (h4 : ¬ 4 ≤ (((pcs l).getD k (0, 0)).2 : Int)) : packK l k ++ List.replicate (min (((pcs l).getD k (0, 0)).2 : Int) 4).toNat (u8 (((pcs l).getD k (0, 0)).1.toNat : Int)) = packK l (k + 1) := by
  rw [packK, packK, flat_succ encP _ (0, 0) hk, encP, if_neg (by omega), u8_nat, show (min (((pcs l).getD k (0, 0)).2 : Int) 4).toNat = min ((pcs l).getD k (0, 0)).2 4 by omega, List.append_nil]
def expK (l : List UInt8) (k : Nat) : List UInt8 := expI ((reps l).take k)
theorem expK_len {l : List UInt8} (hl : ¬ lack l) : ∀ k, k ≤ (reps l).length → (expK l k).length ≤ 255 * k
  | 0, _ => by simp [expK, expI]
  | k + 1, hk => by
    have ih := expK_len hl k (by omega)
    have hr := reps_len l
    rw [if_neg (show ¬ (stA l l.length).1 = 4 from hl)] at hr
    have := reps_ge (l := l) (i := k) (by omega)
    rw [expK, expI, flat_succ _ _ (0, 0) (by omega), List.length_append, List.length_replicate]
    unfold expK expI at ih
    omega
theorem ek {l : List UInt8} {k : Nat} (hk : k < (reps l).length) : expK l k ++ List.replicate ((reps l).getD k (0, 0)).2.toNat (u8 (((reps l).getD k (0, 0)).1.toNat : Int)) = expK l (k + 1) := by
  rw [expK, expK, expI, expI, flat_succ _ _ (0, 0) hk, u8_nat]
theorem expK_end (l : List UInt8) : expK l (reps l).length = expI (reps l) := by rw [expK, List.take_length]
def unpV (s : ByteArray) (m : Int) : ByteArray × Int := if lack s.data.toList then (ByteArray.empty, 3) else if m < sumI (reps s.data.toList) then (ByteArray.empty, 4) else (⟨(expI (reps s.data.toList)).toArray⟩, 0)
theorem tol_f {l : List UInt8} (h : (tolV l).2 = false) : lack l := by
  unfold tolV at h
  apply Classical.byContradiction
  intro hn
  rw [if_neg hn] at h; cases h
theorem tol_t {l : List UInt8} (h : (tolV l).2 = true) : ¬ lack l ∧ (tolV l).1 = sumI (reps l) := by
  unfold tolV at h ⊢
  by_cases hn : lack l
  · rw [if_pos hn] at h; cases h
  · rw [if_neg hn]; exact ⟨hn, rfl⟩
theorem sumI_bd {l : List UInt8} (hn : ¬ lack l) : 0 ≤ sumI (reps l) ∧ sumI (reps l) ≤ 255 * l.length := by
  have hr := reps_len l
  rw [if_neg (show ¬ (stA l l.length).1 = 4 from hn)] at hr
  have := tolS_bd (l := l) (k := (reps l).length) (Nat.le_refl _) (fun j hj => go_lt (by omega))
  rw [tolS_eq (Nat.le_refl _) (fun j hj => go_lt (by omega)), List.take_length] at this
  omega

set_option maxRecDepth 100000 in
set_option maxHeartbeats 1000000 in
theorem pack_s (s : ByteArray) (hs : s.size ≤ 1000000000) :
    FPure Try.prog 13 [Is (.string s)] (Is (.string (packV s))) := by
  refine FPure.of Try.func13 Try.ntmps13 rfl (by kernel_rfl) rfl rfl rfl ?_
  refine W_seq ?_
  refine W_regionE (c := 1) (c' := 2) (by kernel_rfl) rfl ?_
  refine Runs_p rfl (Valid.assignk (A := Is _) rfl rfl) rfl rfl ?_ -- rle.go:18 assign
  refine Runs_nil ?_
  refine thenQ_n ?_
  refine W_seq ?_
  refine W_regionE (c := 2) (c' := 3) (by kernel_rfl) rfl ?_
  refine Runs_w rfl (Valid.alloc [(Value.pointer none), (Value.slice none 0 0)] rfl zv45 rfl) rfl rfl ?_ -- rle.go:19 alloc
  refine Runs_nil ?_
  refine thenQ_n ?_
  refine W_seq ?_
  refine W_regionE (c := 3) (c' := 6) (by kernel_rfl) rfl ?_
  refine Runs_p rfl (Valid.makefunc rfl) rfl rfl ?_ -- rle.go:20 makeFunc
  refine Runs_w rfl (Valid.alloc [Value.nilFunc] rfl zv49 rfl) rfl rfl ?_ -- rle.go:20 alloc
  refine Runs_op rfl (Valid.store rfl sz49 rfl rfl (Nat.le_of_ble_eq_true rfl) (One.fnv rfl)) rfl ?_ -- rle.go:20 store
  refine Runs_nil ?_
  refine thenQ_n ?_
  refine W_seq ?_
  refine W_seq ?_
  refine W_regionE (c := 6) (c' := 8) (by kernel_rfl) rfl ?_
  refine Runs_p rfl (Valid.movek (A := Is _) rfl rfl) rfl rfl ?_ -- rle.go:25 move
  refine Runs_p rfl (Valid.call rfl (pieces_s _) ⟨argle rfl, trivial⟩) rfl rfl ?_ -- rle.go:25 call
  refine Runs_nil ?_
  refine thenQ_n ?_
  refine W_block ?_
  refine W.ent ?_ (Ent.ownnilat 16 1 5 1 rfl rfl)
  refine W_range (n := (pcs s.data.toList).length) (vals := fun q => [Is (.int .u8 (((pcs s.data.toList).getD q (0, 0)).1.toNat : Int)), Is (.int .i64 (((pcs s.data.toList).getD q (0, 0)).2 : Int))]) (go := fun _ => true) (jc := .ret) (h0 := [(1, .var 45 [Is _, Ab.Own 3 1 _ _]), (2, .var 49 [FnV 21 [] [Ptr 1 0]]), (3, .row 5 1 _ _)]) (hin := fun k => [(1, .var 45 [PN (decide (0 < k)) 1, Ab.Own 8 1 (packK s.data.toList k).length ((packK s.data.toList k).map B)]), (2, .var 49 [FnV 21 [] [Ptr 1 0]]), (8, .row 5 1 (packK s.data.toList k).length ((packK s.data.toList k).map B))]) (hin' := fun k => [(16, .var 45 [PN (decide (0 < k)) 16, Ab.Own 72 1 (packK s.data.toList k).length ((packK s.data.toList k).map B)]), (32, .var 49 [FnV 21 [] [Ptr 16 0]]), (72, .row 5 1 (packK s.data.toList k).length ((packK s.data.toList k).map B))]) (fx := [(4, Ptr 2 0)]) [(1, 16), (2, 32), (3, 64)] [(8, 3)] rfl (capsOk_fz capsOk_nil) (pcs_it s (by omega)) (by kernel_rfl) (fun _ => rfl) (fun _ => valsOk_is [_, _]) (by kernel_rfl) ⟨(leq_ptr rfl rfl rfl), trivial⟩ (fun _ => by kernel_rfl) ⟨⟨_, rfl, .var ⟨(leq_is rfl rfl rfl), (leq_own rfl rfl rfl rfl rfl), trivial⟩⟩, ⟨_, rfl, .var ⟨(leq_fn rfl rfl trivial ⟨(leq_ptr rfl rfl rfl), trivial⟩), trivial⟩⟩, ⟨_, rfl, .row rfl rfl⟩, trivial⟩ (by kernel_rfl) (by kernel_rfl) (by kernel_rfl) ⟨hp_var rfl ⟨(leq_pnn rfl rfl (by first | rfl)), (leq_own rfl rfl rfl (by first | rfl) (by first | rfl)), trivial⟩, hp_var rfl ⟨(leq_fn rfl rfl trivial ⟨(leq_ptr rfl rfl rfl), trivial⟩), trivial⟩, hp_row rfl (by first | rfl) (by first | rfl), trivial⟩ (by kernel_rfl) (by kernel_rfl) (fun _ => by kernel_rfl) (fun _ => by kernel_rfl) (fun _ => (hpup_cons (j := 16) rfl (cup_var (allup_cons (up_pn (id' := 16) rfl) (allup_cons (up_own' (id' := 72) rfl) allup_nil))) (hpup_cons (j := 32) rfl (cup_var (allup_cons (up_fn allup_nil (allup_cons (up_ptr' (id' := 16) rfl) allup_nil)) allup_nil)) (hpup_cons (j := 72) rfl cup_row hpup_nil)))) (by kernel_rfl) (fun _ => by kernel_rfl) ?_ ?_ ?_
  · intro k hk1 hgo1
    have hpl := pcs_len s.data.toList
    rw [len_ba] at hpl
    have hkl := packK_len s.data.toList k
    have hpn := pcs_getD hk1
    have hbt := ((pcs s.data.toList).getD k (0, 0)).1.toNat_lt
    refine W_seq ?_
    refine W_regionE (c := 2) (c' := 3) (by kernel_rfl) rfl ?_
    refine Runs_p rfl (Valid.assignk (A := Is _) rfl rfl) rfl rfl ?_ -- rle.go:25 assign
    refine Runs_nil ?_
    refine thenQ_n ?_
    refine W_regionE (c := 3) (c' := 4) (by kernel_rfl) rfl ?_
    refine Runs_p rfl (Valid.assignk (A := Is _) rfl rfl) rfl rfl ?_ -- rle.go:25 assign
    refine Runs_nil ?_
    refine ⟨rfl, ?_⟩
    refine W_block ?_
    refine W_seq ?_
    refine W_regionE (c := 4) (c' := 9) (by kernel_rfl) rfl ?_
    refine Runs_p rfl (Valid.load _ rfl ag49 rfl rfl rfl) rfl rfl ?_ -- rle.go:26 load
    refine Runs_p rfl (Valid.movek (A := Is _) rfl rfl) rfl rfl ?_ -- rle.go:26 move
    refine Runs_p rfl (Valid.movek (A := Is _) rfl rfl) rfl rfl ?_ -- rle.go:26 move
    refine Runs_p rfl (Valid.min rfl rfl rfl) rfl rfl ?_ -- rle.go:26 call
    refine Runs_w rfl (Valid.callm [(1, 1), (2, 8)] rfl (.inr ⟨_, _, rfl, rfl⟩) (lay_s _ _ _ _ (by omega) (by omega) (by first | omega | (simp; omega))) ⟨(leq_is rfl rfl rfl), (leq_is rfl rfl rfl), (leq_ptr rfl rfl rfl), trivial⟩ ⟨⟨_, rfl, .var ⟨(leq_pn rfl rfl rfl rfl), (leq_own rfl rfl rfl rfl rfl), trivial⟩⟩, ⟨_, rfl, .row rfl rfl⟩, trivial⟩ (up_pure rfl) (hpup_cons (j := 1) rfl (cup_var (allup_cons (up_pn (id' := 1) rfl) (allup_cons (up_own' (id' := 64) rfl) allup_nil))) (hpup_cons (j := 64) rfl cup_row hpup_nil)) (by kernel_rfl) (by kernel_rfl) (by kernel_rfl) (by kernel_rfl) (by kernel_rfl) (by kernel_rfl) (by kernel_rfl) (by kernel_rfl) (by kernel_rfl)) rfl rfl ?_ -- rle.go:26 call
    refine Runs_nil ?_
    refine thenQ_n ?_
    refine W_seq ?_
    refine W_regionE (c := 9) (c' := 11) (by kernel_rfl) rfl ?_
    refine Runs_p rfl (Valid.movek (A := Is _) rfl rfl) rfl rfl ?_ -- rle.go:27 move
    refine Runs_p rfl (Valid.geq rfl rfl rfl) rfl rfl ?_ -- rle.go:27 binOp
    refine Runs_nil ?_
    refine thenQ_n ?_
    refine W_cond _ rfl (fun hb1 => ?_) (fun hb1 => ?_)
    · try simp only [decide_eq_true_eq] at hb1
      all_goals (
        refine W_regionE (c := 11) (c' := 16) (by kernel_rfl) rfl ?_
        refine Runs_p rfl (Valid.load _ rfl ag49 rfl rfl rfl) rfl rfl ?_ -- rle.go:28 load
        refine Runs_p rfl (Valid.movek (A := Is _) rfl rfl) rfl rfl ?_ -- rle.go:28 move
        refine Runs_p rfl (Valid.sub rfl rfl rfl (room64 (by first | omega | (simp only [Int.toNat_natCast, toNat_add, toNat_add1, List.length_append, List.length_cons, List.length_nil, List.length_replicate]; omega)) (by first | omega | (simp only [Int.toNat_natCast, toNat_add, toNat_add1, List.length_append, List.length_cons, List.length_nil, List.length_replicate]; omega)))) rfl rfl ?_ -- rle.go:28 binOp
        refine Runs_p rfl (Valid.convr rfl rfl Try.underlying3 Try.underlying5 (by unfold Room; rw [IntKind.wrap_u8]; omega)) rfl rfl ?_ -- rle.go:28 convert
        refine Runs_w rfl (Valid.callm [(1, 1), (2, 64)] rfl (.inr ⟨_, _, rfl, rfl⟩) (lay_s _ _ _ _ (by omega) (by omega) (by first | omega | (simp; omega))) ⟨(leq_is rfl rfl rfl), (leq_is rfl rfl rfl), (leq_ptr rfl rfl rfl), trivial⟩ ⟨⟨_, rfl, .var ⟨(leq_pn rfl rfl rfl rfl), (leq_own rfl rfl rfl rfl rfl), trivial⟩⟩, ⟨_, rfl, .row rfl rfl⟩, trivial⟩ (up_pure rfl) (hpup_cons (j := 1) rfl (cup_var (allup_cons (up_pn (id' := 1) rfl) (allup_cons (up_own' (id' := 120) rfl) allup_nil))) (hpup_cons (j := 120) rfl cup_row hpup_nil)) (by kernel_rfl) (by kernel_rfl) (by kernel_rfl) (by kernel_rfl) (by kernel_rfl) (by kernel_rfl) (by kernel_rfl) (by kernel_rfl) (by kernel_rfl)) rfl rfl ?_ -- rle.go:28 call
        refine Runs_nil ?_
        refine blockQ_n ?_
        exact roundQ_n [(8, 120)] (by first | rfl | assumption) ⟨hp_var rfl ⟨(leq_pn rfl rfl rfl (by first | rfl | (rw [pk_y hk1 (by assumption)]; done) | (rw [pk_n hk1 (by assumption)]; done) | exact pny | exact pnn (by omega) | (simp; done))), (leq_own rfl rfl rfl (by first | rfl | (rw [pk_y hk1 (by assumption)]; done) | (rw [pk_n hk1 (by assumption)]; done) | exact pny | exact pnn (by omega) | (simp; done)) (by first | rfl | (rw [pk_y hk1 (by assumption)]; done) | (rw [pk_n hk1 (by assumption)]; done) | exact pny | exact pnn (by omega) | (simp; done))), trivial⟩, hp_var rfl ⟨(leq_fn rfl rfl trivial ⟨(leq_ptr rfl rfl rfl), trivial⟩), trivial⟩, hp_row rfl (by first | rfl | (rw [pk_y hk1 (by assumption)]; done) | (rw [pk_n hk1 (by assumption)]; done) | exact pny | exact pnn (by omega) | (simp; done)) (by first | rfl | (rw [pk_y hk1 (by assumption)]; done) | (rw [pk_n hk1 (by assumption)]; done) | exact pny | exact pnn (by omega) | (simp; done)), trivial⟩ rfl rfl
        done)
    · try simp only [decide_eq_false_iff_not] at hb1
      all_goals (
        refine W_skip ?_
        refine blockQ_n ?_
        exact roundQ_n [(8, 64)] (by first | rfl | assumption) ⟨hp_var rfl ⟨(leq_pn rfl rfl rfl (by first | rfl | (rw [pk_y hk1 (by assumption)]; done) | (rw [pk_n hk1 (by assumption)]; done) | exact pny | exact pnn (by omega) | (simp; done))), (leq_own rfl rfl rfl (by first | rfl | (rw [pk_y hk1 (by assumption)]; done) | (rw [pk_n hk1 (by assumption)]; done) | exact pny | exact pnn (by omega) | (simp; done)) (by first | rfl | (rw [pk_y hk1 (by assumption)]; done) | (rw [pk_n hk1 (by assumption)]; done) | exact pny | exact pnn (by omega) | (simp; done))), trivial⟩, hp_var rfl ⟨(leq_fn rfl rfl trivial ⟨(leq_ptr rfl rfl rfl), trivial⟩), trivial⟩, hp_row rfl (by first | rfl | (rw [pk_y hk1 (by assumption)]; done) | (rw [pk_n hk1 (by assumption)]; done) | exact pny | exact pnn (by omega) | (simp; done)) (by first | rfl | (rw [pk_y hk1 (by assumption)]; done) | (rw [pk_n hk1 (by assumption)]; done) | exact pny | exact pnn (by omega) | (simp; done)), trivial⟩ rfl rfl
        done)
  · intro hall1
    refine blockQ_n ?_
    refine thenQ_n ?_
    refine W_seq ?_
    refine W_regionE (c := 10) (c' := 12) (by kernel_rfl) rfl ?_
    refine Runs_w rfl (Valid.callm [(1, 16), (2, 72)] rfl (.inl ⟨rfl, rfl⟩) (bstr_s _ _) ⟨(leq_ptr rfl rfl rfl), trivial⟩ ⟨⟨_, rfl, .var ⟨(leq_pn rfl rfl rfl rfl), (leq_own rfl rfl rfl rfl rfl), trivial⟩⟩, ⟨_, rfl, .row rfl rfl⟩, trivial⟩ (up_pure rfl) hpup_nil (by kernel_rfl) (by kernel_rfl) (by kernel_rfl) (by kernel_rfl) (by kernel_rfl) (by kernel_rfl) (by kernel_rfl) (by kernel_rfl) (by kernel_rfl)) rfl rfl ?_ -- rle.go:31 call
    refine Runs_p rfl (Valid.assignk (A := Is _) rfl rfl) rfl rfl ?_ -- rle.go:31 assign
    refine Runs_nil ?_
    refine thenQ_n ?_
    refine W_ret ?_
    refine finQ_r ?_
    refine ResOk.one rfl (RVal.is rfl rfl (by rw [packK_end]; rfl))
  · intro k hk1 hgo1 hgk1
    exact absurd hgk1 (by decide)
    

set_option maxRecDepth 100000 in
set_option maxHeartbeats 1000000 in
theorem unpack_s (s : ByteArray) (m : Int) (hs : s.size ≤ 1000000000) :
    FPure Try.prog 16 [Is (.string s), Is (.int .i64 m)] (Tup [Is (.string (unpV s m).1), Is (.int .i64 (unpV s m).2)]) := by
  refine FPure.of Try.func16 Try.ntmps16 rfl (by kernel_rfl) rfl rfl rfl ?_
  refine W_seq ?_
  refine W_regionE (c := 1) (c' := 3) (by kernel_rfl) rfl ?_
  refine Runs_p rfl (Valid.assignk (A := Is _) rfl rfl) rfl rfl ?_ -- rle.go:82 assign
  refine Runs_p rfl (Valid.assignk (A := Is _) rfl rfl) rfl rfl ?_ -- rle.go:82 assign
  refine Runs_nil ?_
  refine thenQ_n ?_
  refine W_seq ?_
  refine W_regionE (c := 3) (c' := 10) (by kernel_rfl) rfl ?_
  refine Runs_p rfl (Valid.movek (A := Is _) rfl rfl) rfl rfl ?_ -- rle.go:83 move
  refine Runs_p rfl (Valid.call rfl (told_s _ (by omega)) ⟨argle rfl, trivial⟩) rfl rfl ?_ -- rle.go:83 call
  refine Runs_p rfl (Valid.movek (A := Tup [Is _, Is _]) rfl rfl) rfl rfl ?_ -- rle.go:83 move
  refine Runs_p rfl (Valid.extract _ rfl rfl rfl) rfl rfl ?_ -- rle.go:83 extract
  refine Runs_p rfl (Valid.extract _ rfl rfl rfl) rfl rfl ?_ -- rle.go:83 extract
  refine Runs_p rfl (Valid.assignk (A := Is _) rfl rfl) rfl rfl ?_ -- rle.go:83 assign
  refine Runs_p rfl (Valid.assignk (A := Is _) rfl rfl) rfl rfl ?_ -- rle.go:83 assign
  refine Runs_nil ?_
  refine thenQ_n ?_
  refine W_seq ?_
  refine W_seq ?_
  refine W_regionE (c := 10) (c' := 12) (by kernel_rfl) rfl ?_
  refine Runs_p rfl (Valid.movek (A := Is _) rfl rfl) rfl rfl ?_ -- rle.go:84 move
  refine Runs_p rfl (Valid.not rfl rfl) rfl rfl ?_ -- rle.go:84 unOp
  refine Runs_nil ?_
  refine thenQ_n ?_
  refine W_cond _ rfl (fun hb1 => ?_) (fun hb1 => ?_)
  · try simp only [Bool.not_eq_true'] at hb1
    all_goals (
      refine W_seq ?_
      refine W_regionE (c := 12) (c' := 14) (by kernel_rfl) rfl ?_
      refine Runs_p rfl (Valid.assignk (A := Is _) rfl rfl) rfl rfl ?_ -- rle.go:85 assign
      refine Runs_p rfl (Valid.assignk (A := Is _) rfl rfl) rfl rfl ?_ -- rle.go:85 assign
      refine Runs_nil ?_
      refine thenQ_n ?_
      refine W_ret ?_
      refine thenQ_r ?_
      refine finQ_r ?_
      refine ResOk.two rfl (RVal.is rfl rfl (by first | (rw [unpV, if_pos (tol_f (by assumption))]; done) | (rw [unpV, if_pos (tol_f (by assumption))]; rfl) | (rw [unpV, if_neg htt.1, if_neg (by rw [← htt.2]; assumption)]; done) | (rw [unpV, if_neg htt.1, if_neg (by rw [← htt.2]; assumption), expK_end]; done) | (rw [unpV, if_neg (tol_t (by assumption)).1, if_pos (by rw [← (tol_t (by assumption)).2]; assumption)]; done) | (rw [unpV, if_neg (tol_t (by assumption)).1, if_pos (by rw [← (tol_t (by assumption)).2]; assumption)]; rfl))) (RVal.is rfl rfl (by first | (rw [unpV, if_pos (tol_f (by assumption))]; done) | (rw [unpV, if_pos (tol_f (by assumption))]; rfl) | (rw [unpV, if_neg htt.1, if_neg (by rw [← htt.2]; assumption)]; done) | (rw [unpV, if_neg htt.1, if_neg (by rw [← htt.2]; assumption), expK_end]; done) | (rw [unpV, if_neg (tol_t (by assumption)).1, if_pos (by rw [← (tol_t (by assumption)).2]; assumption)]; done) | (rw [unpV, if_neg (tol_t (by assumption)).1, if_pos (by rw [← (tol_t (by assumption)).2]; assumption)]; rfl)))
      done)
  · try simp only [Bool.not_eq_false'] at hb1
    all_goals (
      refine W_skip ?_
      refine thenQ_n ?_
      refine W_seq ?_
      refine W_seq ?_
      refine W_regionE (c := 12) (c' := 15) (by kernel_rfl) rfl ?_
      refine Runs_p rfl (Valid.movek (A := Is _) rfl rfl) rfl rfl ?_ -- rle.go:87 move
      refine Runs_p rfl (Valid.movek (A := Is _) rfl rfl) rfl rfl ?_ -- rle.go:87 move
      refine Runs_p rfl (Valid.gtr rfl rfl rfl) rfl rfl ?_ -- rle.go:87 binOp
      refine Runs_nil ?_
      refine thenQ_n ?_
      refine W_cond _ rfl (fun hb2 => ?_) (fun hb2 => ?_)
      · try simp only [decide_eq_true_eq] at hb2
        all_goals (
          refine W_seq ?_
          refine W_regionE (c := 15) (c' := 17) (by kernel_rfl) rfl ?_
          refine Runs_p rfl (Valid.assignk (A := Is _) rfl rfl) rfl rfl ?_ -- rle.go:88 assign
          refine Runs_p rfl (Valid.assignk (A := Is _) rfl rfl) rfl rfl ?_ -- rle.go:88 assign
          refine Runs_nil ?_
          refine thenQ_n ?_
          refine W_ret ?_
          refine thenQ_r ?_
          refine finQ_r ?_
          refine ResOk.two rfl (RVal.is rfl rfl (by first | (rw [unpV, if_pos (tol_f (by assumption))]; done) | (rw [unpV, if_pos (tol_f (by assumption))]; rfl) | (rw [unpV, if_neg htt.1, if_neg (by rw [← htt.2]; assumption)]; done) | (rw [unpV, if_neg htt.1, if_neg (by rw [← htt.2]; assumption), expK_end]; done) | (rw [unpV, if_neg (tol_t (by assumption)).1, if_pos (by rw [← (tol_t (by assumption)).2]; assumption)]; done) | (rw [unpV, if_neg (tol_t (by assumption)).1, if_pos (by rw [← (tol_t (by assumption)).2]; assumption)]; rfl))) (RVal.is rfl rfl (by first | (rw [unpV, if_pos (tol_f (by assumption))]; done) | (rw [unpV, if_pos (tol_f (by assumption))]; rfl) | (rw [unpV, if_neg htt.1, if_neg (by rw [← htt.2]; assumption)]; done) | (rw [unpV, if_neg htt.1, if_neg (by rw [← htt.2]; assumption), expK_end]; done) | (rw [unpV, if_neg (tol_t (by assumption)).1, if_pos (by rw [← (tol_t (by assumption)).2]; assumption)]; done) | (rw [unpV, if_neg (tol_t (by assumption)).1, if_pos (by rw [← (tol_t (by assumption)).2]; assumption)]; rfl)))
          done)
      · try simp only [decide_eq_false_iff_not] at hb2
        all_goals (
          refine W_skip ?_
          refine thenQ_n ?_
          refine W_seq ?_
          have htt := tol_t (by first | assumption | simpa using hb1)
          have hsb := sumI_bd htt.1
          have hln := len_ba s
          have hte := htt.2
          refine W_regionE (c := 15) (c' := 19) (by kernel_rfl) rfl ?_
          refine Runs_p rfl (Valid.movek (A := Is _) rfl rfl) rfl rfl ?_ -- rle.go:90 move
          refine Runs_w rfl (Valid.make0 rfl Try.underlying40 tm5 rfl rfl rfl (by first | omega | (simp only [Int.toNat_natCast, toNat_add, toNat_add1, List.length_append, List.length_cons, List.length_nil, List.length_replicate]; omega)) (by first | omega | (simp only [Int.toNat_natCast, toNat_add, toNat_add1, List.length_append, List.length_cons, List.length_nil, List.length_replicate]; omega)) (by first | omega | (simp only [Int.toNat_natCast, toNat_add, toNat_add1, List.length_append, List.length_cons, List.length_nil, List.length_replicate]; omega))) rfl rfl ?_ -- rle.go:90 makeSlice
          refine Runs_w rfl (Valid.alloc [(Value.slice none 0 0)] rfl zv40 rfl) rfl rfl ?_ -- rle.go:90 alloc
          refine Runs_op rfl (Valid.store rfl sz40 rfl rfl (Nat.le_of_ble_eq_true rfl) (One.sl (Reads.own rfl))) rfl ?_ -- rle.go:90 store
          refine Runs_nil ?_
          refine thenQ_n ?_
          refine W_seq ?_
          refine W_regionE (c := 19) (c' := 22) (by kernel_rfl) rfl ?_
          refine Runs_p rfl (Valid.makefunc rfl) rfl rfl ?_ -- rle.go:91 makeFunc
          refine Runs_w rfl (Valid.alloc [Value.nilFunc] rfl zv49 rfl) rfl rfl ?_ -- rle.go:91 alloc
          refine Runs_op rfl (Valid.store rfl sz49 rfl rfl (Nat.le_of_ble_eq_true rfl) (One.fnv rfl)) rfl ?_ -- rle.go:91 store
          refine Runs_nil ?_
          refine thenQ_n ?_
          refine W_seq ?_
          refine W_seq ?_
          refine W_regionE (c := 22) (c' := 24) (by kernel_rfl) rfl ?_
          refine Runs_p rfl (Valid.movek (A := Is _) rfl rfl) rfl rfl ?_ -- rle.go:96 move
          refine Runs_p rfl (Valid.call rfl (repeats_s _) ⟨argle rfl, trivial⟩) rfl rfl ?_ -- rle.go:96 call
          refine Runs_nil ?_
          refine thenQ_n ?_
          refine W_block ?_
          refine W_range (n := (reps s.data.toList).length) (vals := fun q => [Is (.int .u8 (((reps s.data.toList).getD q (0, 0)).1.toNat : Int)), Is (.int .i64 ((reps s.data.toList).getD q (0, 0)).2)]) (go := fun _ => true) (jc := .ret) (h0 := [(1, .var 40 [Ab.Own 3 1 _ _]), (2, .var 49 [FnV 27 [] [Ptr 1 0]]), (3, .row 5 1 _ _)]) (hin := fun k => [(1, .var 40 [Ab.Own 8 1 (expK s.data.toList k).length ((expK s.data.toList k).map B)]), (2, .var 49 [FnV 27 [] [Ptr 1 0]]), (8, .row 5 1 (expK s.data.toList k).length ((expK s.data.toList k).map B))]) (hin' := fun k => [(136, .var 40 [Ab.Own 192 1 (expK s.data.toList k).length ((expK s.data.toList k).map B)]), (160, .var 49 [FnV 27 [] [Ptr 136 0]]), (192, .row 5 1 (expK s.data.toList k).length ((expK s.data.toList k).map B))]) (fx := [(9, Ptr 2 0)]) [(1, 136), (2, 160), (3, 128)] [(8, 3)] rfl (capsOk_fz capsOk_nil) (reps_it s (by omega)) (by kernel_rfl) (fun _ => rfl) (fun _ => valsOk_is [_, _]) (by kernel_rfl) ⟨(leq_ptr rfl rfl rfl), trivial⟩ (fun _ => by kernel_rfl) ⟨⟨_, rfl, .var ⟨(leq_own rfl rfl rfl rfl rfl), trivial⟩⟩, ⟨_, rfl, .var ⟨(leq_fn rfl rfl trivial ⟨(leq_ptr rfl rfl rfl), trivial⟩), trivial⟩⟩, ⟨_, rfl, .row rfl rfl⟩, trivial⟩ (by kernel_rfl) (by kernel_rfl) (by kernel_rfl) ⟨hp_var rfl ⟨(leq_own rfl rfl rfl (by first | rfl) (by first | rfl)), trivial⟩, hp_var rfl ⟨(leq_fn rfl rfl trivial ⟨(leq_ptr rfl rfl rfl), trivial⟩), trivial⟩, hp_row rfl (by first | rfl) (by first | rfl), trivial⟩ (by kernel_rfl) (by kernel_rfl) (fun _ => by kernel_rfl) (fun _ => by kernel_rfl) (fun _ => (hpup_cons (j := 136) rfl (cup_var (allup_cons (up_own' (id' := 192) rfl) allup_nil)) (hpup_cons (j := 160) rfl (cup_var (allup_cons (up_fn allup_nil (allup_cons (up_ptr' (id' := 136) rfl) allup_nil)) allup_nil)) (hpup_cons (j := 192) rfl cup_row hpup_nil)))) (by kernel_rfl) (fun _ => by kernel_rfl) ?_ ?_ ?_
          · intro k hk1 hgo1
            have hrl := reps_len s.data.toList
            rw [if_neg (show ¬ (stA s.data.toList s.data.toList.length).1 = 4 from htt.1)] at hrl
            have hge := reps_ge (l := s.data.toList) (i := k) (by omega)
            have hel := expK_len htt.1 k (by omega)
            have hbt := ((reps s.data.toList).getD k (0, 0)).1.toNat_lt
            refine W_seq ?_
            refine W_regionE (c := 2) (c' := 3) (by kernel_rfl) rfl ?_
            refine Runs_p rfl (Valid.assignk (A := Is _) rfl rfl) rfl rfl ?_ -- rle.go:96 assign
            refine Runs_nil ?_
            refine thenQ_n ?_
            refine W_regionE (c := 3) (c' := 4) (by kernel_rfl) rfl ?_
            refine Runs_p rfl (Valid.assignk (A := Is _) rfl rfl) rfl rfl ?_ -- rle.go:96 assign
            refine Runs_nil ?_
            refine ⟨rfl, ?_⟩
            refine W_block ?_
            refine W_regionE (c := 4) (c' := 8) (by kernel_rfl) rfl ?_
            refine Runs_p rfl (Valid.load _ rfl ag49 rfl rfl rfl) rfl rfl ?_ -- rle.go:97 load
            refine Runs_p rfl (Valid.movek (A := Is _) rfl rfl) rfl rfl ?_ -- rle.go:97 move
            refine Runs_p rfl (Valid.movek (A := Is _) rfl rfl) rfl rfl ?_ -- rle.go:97 move
            refine Runs_w rfl (Valid.callm [(1, 1), (2, 8)] rfl (.inr ⟨_, _, rfl, rfl⟩) (ulay_s _ _ _ (by omega) (by omega) (by first | omega | (simp; omega))) ⟨(leq_is rfl rfl rfl), (leq_is rfl rfl rfl), (leq_ptr rfl rfl rfl), trivial⟩ ⟨⟨_, rfl, .var ⟨(leq_own rfl rfl rfl rfl rfl), trivial⟩⟩, ⟨_, rfl, .row rfl rfl⟩, trivial⟩ (up_pure rfl) (hpup_cons (j := 1) rfl (cup_var (allup_cons (up_own' (id' := 56) rfl) allup_nil)) (hpup_cons (j := 56) rfl cup_row hpup_nil)) (by kernel_rfl) (by kernel_rfl) (by kernel_rfl) (by kernel_rfl) (by kernel_rfl) (by kernel_rfl) (by kernel_rfl) (by kernel_rfl) (by kernel_rfl)) rfl rfl ?_ -- rle.go:97 call
            refine Runs_nil ?_
            refine blockQ_n ?_
            exact roundQ_n [(8, 56)] (by first | rfl | assumption) ⟨hp_var rfl ⟨(leq_own rfl rfl rfl (by first | rfl | (rw [ek hk1]; done)) (by first | rfl | (rw [ek hk1]; done))), trivial⟩, hp_var rfl ⟨(leq_fn rfl rfl trivial ⟨(leq_ptr rfl rfl rfl), trivial⟩), trivial⟩, hp_row rfl (by first | rfl | (rw [ek hk1]; done)) (by first | rfl | (rw [ek hk1]; done)), trivial⟩ rfl rfl
          · intro hall1
            refine blockQ_n ?_
            refine thenQ_n ?_
            refine W_seq ?_
            refine W_regionE (c := 25) (c' := 29) (by kernel_rfl) rfl ?_
            refine Runs_p rfl (Valid.load _ rfl ag40 rfl rfl rfl) rfl rfl ?_ -- rle.go:99 load
            refine Runs_p rfl (Valid.tostring rfl Try.underlying40 Try.underlying5 Try.underlying9 (Reads.own rfl)) rfl rfl ?_ -- rle.go:99 convert
            refine Runs_p rfl (Valid.assignk (A := Is _) rfl rfl) rfl rfl ?_ -- rle.go:99 assign
            refine Runs_p rfl (Valid.assignk (A := Is _) rfl rfl) rfl rfl ?_ -- rle.go:99 assign
            refine Runs_nil ?_
            refine thenQ_n ?_
            refine W_ret ?_
            refine finQ_r ?_
            refine ResOk.two rfl (RVal.is rfl rfl (by first | (rw [unpV, if_pos (tol_f (by assumption))]; done) | (rw [unpV, if_pos (tol_f (by assumption))]; rfl) | (rw [unpV, if_neg htt.1, if_neg (by rw [← htt.2]; assumption)]; done) | (rw [unpV, if_neg htt.1, if_neg (by rw [← htt.2]; assumption), expK_end]; done) | (rw [unpV, if_neg (tol_t (by assumption)).1, if_pos (by rw [← (tol_t (by assumption)).2]; assumption)]; done) | (rw [unpV, if_neg (tol_t (by assumption)).1, if_pos (by rw [← (tol_t (by assumption)).2]; assumption)]; rfl))) (RVal.is rfl rfl (by first | (rw [unpV, if_pos (tol_f (by assumption))]; done) | (rw [unpV, if_pos (tol_f (by assumption))]; rfl) | (rw [unpV, if_neg htt.1, if_neg (by rw [← htt.2]; assumption)]; done) | (rw [unpV, if_neg htt.1, if_neg (by rw [← htt.2]; assumption), expK_end]; done) | (rw [unpV, if_neg (tol_t (by assumption)).1, if_pos (by rw [← (tol_t (by assumption)).2]; assumption)]; done) | (rw [unpV, if_neg (tol_t (by assumption)).1, if_pos (by rw [← (tol_t (by assumption)).2]; assumption)]; rfl)))
          · intro k hk1 hgo1 hgk1
            exact absurd hgk1 (by decide)
            
          done)
      done)
end Rd
end Go.Proofs.Ytmilegikgbmjpaa
