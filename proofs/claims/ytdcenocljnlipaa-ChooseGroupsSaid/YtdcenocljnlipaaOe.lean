/-
  WALKS of stage 8: words.
-/
import Derived.Test.YtdcenocljnlipaaRows
import Derived.Test.YtdcenocljnlipaaOa
import Derived.Test.YtdcenocljnlipaaOb
import Derived.Test.YtdcenocljnlipaaOc
import Derived.Test.YtdcenocljnlipaaOd
namespace Go.Proofs.Ytdcenocljnlipaa
open Go.RowKit
namespace Oe
open Ab Oa Ob Oc Od
theorem ag3 (w : World) : (isAgg 3).run Try.prog w = .ok false w := by kernel_rfl
theorem ag51 (w : World) : (isAgg 51).run Try.prog w = .ok false w := by kernel_rfl
theorem ag57 (w : World) : (isAgg 57).run Try.prog w = .ok false w := by kernel_rfl
theorem sz3 (w : World) : (sizeOf 3).run Try.prog w = .ok 1 w := by kernel_rfl
theorem sz51 (w : World) : (sizeOf 51).run Try.prog w = .ok 1 w := by kernel_rfl
theorem sz57 (w : World) : (sizeOf 57).run Try.prog w = .ok 1 w := by kernel_rfl
theorem sz63 (w : World) : (sizeOf 63).run Try.prog w = .ok 2 w := by kernel_rfl
theorem tzE63 : (Try.prog.info? 63).map (fun i => (i.zero, i.size, i.bytes)) = some (some (.agg #[.int .i64 0, .int .u64 0]), 2, 16) := by kernel_rfl
theorem zv3 (w : World) : (zeroValue 3).run Try.prog w = .ok (Value.int .i64 0) w := by kernel_rfl
theorem zv51 (w : World) : (zeroValue 51).run Try.prog w = .ok (Value.int .u64 0) w := by kernel_rfl
theorem zv57 (w : World) : (zeroValue 57).run Try.prog w = .ok (Value.slice none 0 0) w := by kernel_rfl
def setS : List (Int × Int) → Int → Int → List Nat → List (Int × Int)
  | w, _, _, [] => w
  | w, n, x, s :: ss => setS (w.set s (n, x)) n (x + 1) ss
theorem setS_app (n : Int) (s : Nat) : ∀ (ss : List Nat) (w : List (Int × Int)) (x : Int), setS w n x (ss ++ [s]) = (setS w n x ss).set s (n, x + ss.length)
  | [], w, x => by simp [setS]
  | t :: ss, w, x => by
    rw [List.cons_append, setS, setS_app n s ss, setS, List.length_cons]
    congr 2
    omega
theorem setS_len (n : Int) : ∀ (ss : List Nat) (w : List (Int × Int)) (x : Int), (setS w n x ss).length = w.length
  | [], _, _ => rfl
  | s :: ss, w, x => by rw [setS, setS_len n ss]; simp
def wdS (l : List Int) : Nat → List (Int × Int) × Int
  | 0 => (List.replicate l.length (0, 0), 0)
  | n + 1 => (setS (wdS l n).1 ((n : Int) + 1) (2 * (wdS l n).2) (olL l ((n : Int) + 1)), 2 * (wdS l n).2 + ((olL l ((n : Int) + 1)).length : Int))
theorem wdS_len (l : List Int) : ∀ n, (wdS l n).1.length = l.length
  | 0 => by simp [wdS]
  | n + 1 => by rw [wdS]; simp only; rw [setS_len, wdS_len l n]
theorem wdS_bd (l : List Int) (hl : l.length ≤ 258) : ∀ n, 0 ≤ (wdS l n).2 ∧ (wdS l n).2 + 258 ≤ 258 * 2 ^ n
  | 0 => by simp [wdS]
  | n + 1 => by
    have ih := wdS_bd l hl n
    have h1 := olA_le l ((n : Int) + 1) l.length
    rw [wdS, Int.pow_succ]
    simp only
    unfold olL
    omega
theorem wd_1 (l : List Int) (n : Nat) : (wdS l (n + 1)).1 = setS (wdS l n).1 ((n : Int) + 1) (2 * (wdS l n).2) ((olL l ((n : Int) + 1)).take (olL l ((n : Int) + 1)).length) := by rw [List.take_length]; rfl
theorem wd_2 (l : List Int) (n : Nat) : (wdS l (n + 1)).2 = 2 * (wdS l n).2 + ((olL l ((n : Int) + 1)).length : Int) := rfl
theorem pow20 {n : Nat} (h : n ≤ 20) : (2 : Int) ^ n ≤ 1048576 := by
  have h1 : (2 : Nat) ^ n ≤ 2 ^ 20 := Nat.pow_le_pow_right (by omega) h
  have h3 : ((2 ^ n : Nat) : Int) = 2 ^ n := by simp
  rw [← h3]; omega
theorem set_k {l : List Int} {n0 k : Nat} (hk : k < (olL l ((n0 : Int) + 1)).length) : (setS (wdS l n0).1 ((n0 : Int) + 1) (2 * (wdS l n0).2) ((olL l ((n0 : Int) + 1)).take k)).set ((olL l ((n0 : Int) + 1)).getD k 0) ((n0 : Int) + 1, 2 * (wdS l n0).2 + (k : Int)) = setS (wdS l n0).1 ((n0 : Int) + 1) (2 * (wdS l n0).2) ((olL l ((n0 : Int) + 1)).take (k + 1)) := by
  rw [List.take_succ_eq_append_getElem hk, setS_app, List.length_take, Nat.min_eq_left (by omega), List.getD_eq_getElem?_getD, List.getElem?_eq_getElem hk]; rfl
theorem ol_lt {l : List Int} {n : Int} {k : Nat} (h : k < (olL l n).length) : (olL l n).getD k 0 < l.length := by
  have hm : (olL l n).getD k 0 ∈ olL l n := by
    rw [List.getD_eq_getElem?_getD, List.getElem?_eq_getElem h]; exact List.getElem_mem h
  have := (List.mem_filter.1 hm).1
  exact List.mem_range.1 this
def wdV (l : List Int) : List (Int × Int) := if (sndV l).2 = 0 then (wdS l 20).1 else []
def wcells (w : List (Int × Int)) : List Value := w.flatMap fun p => [Value.int .i64 p.1, Value.int .u64 p.2]
theorem snd_bd {l : List Int} (h : (sndV l).2 = 0) : l.length ≤ 258 ∧ 2 ≤ l.length := by
  have h1 : (cntV l).2 = true := by
    cases hc : (cntV l).2 with
    | true => rfl
    | false => rw [sndV, if_pos hc] at h; simp at h
  have := cntV_bd h1
  exact ⟨this.2.1, this.2.2.1⟩

set_option maxRecDepth 100000 in
set_option maxHeartbeats 1000000 in
theorem words_s (l : List Int) (hin : In64 l) (hl : l.length ≤ 9223372036854775807) :
    FPure Try.prog 35 [Sl 1 l.length (l.map (Value.int .i64))] (Tup [Sl 2 (wdV l).length (wcells (wdV l)), Is (.int .i64 (sndV l).2)]) := by
  refine FPure.of Try.func35 Try.ntmps35 rfl (by kernel_rfl) rfl rfl rfl ?_
  refine W_seq ?_
  refine W_regionE (c := 1) (c' := 3) (by kernel_rfl) rfl ?_
  refine Runs_p rfl (Valid.assignk (A := Is (.slice none 0 0)) rfl rfl) rfl rfl ?_
  refine Runs_p rfl (Valid.assignk (A := Is _) rfl rfl) rfl rfl ?_
  refine Runs_nil ?_
  refine thenQ_n ?_
  refine W_seq ?_
  refine W_seq ?_
  refine W_regionE (c := 3) (c' := 6) (by kernel_rfl) rfl ?_
  refine Runs_p rfl (Valid.movek (A := Sl 1 _ _) rfl rfl) rfl rfl ?_
  refine Runs_p rfl (Valid.call rfl (check_s _ (by assumption) (by omega)) ⟨argle_sl (Reads.sl rfl), trivial⟩) rfl rfl ?_
  refine Runs_p rfl (Valid.assignk (A := Is _) rfl rfl) rfl rfl ?_
  refine Runs_nil ?_
  refine thenQ_n ?_
  refine W_seq ?_
  refine W_regionE (c := 6) (c' := 8) (by kernel_rfl) rfl ?_
  refine Runs_p rfl (Valid.movek (A := Is _) rfl rfl) rfl rfl ?_
  refine Runs_p rfl (Valid.neq rfl rfl rfl) rfl rfl ?_
  refine Runs_nil ?_
  refine thenQ_n ?_
  refine W_cond _ rfl (fun hb1 => ?_) (fun hb1 => ?_)
  · try simp only [decide_eq_true_eq, ne_eq] at hb1
    all_goals (
      refine W_seq ?_
      refine W_regionE (c := 8) (c' := 11) (by kernel_rfl) rfl ?_
      refine Runs_p rfl (Valid.movek (A := Is _) rfl rfl) rfl rfl ?_
      refine Runs_p rfl (Valid.assignk (A := Is (.slice none 0 0)) rfl rfl) rfl rfl ?_
      refine Runs_p rfl (Valid.assignk (A := Is _) rfl rfl) rfl rfl ?_
      refine Runs_nil ?_
      refine thenQ_n ?_
      refine W_ret ?_
      refine thenQ_r ?_
      refine finQ_r ?_
      refine ResOk.two rfl (RVal.sl (Reads.nil rfl) rfl (by first | (rw [wdV, if_neg (by assumption)]; done) | (rw [wdV, if_neg (by assumption)]; rfl) | rfl | (rw [wdV, if_pos hok, show n = 20 by omega]; done) | (rw [wdV, if_pos hok, show n = 20 by omega]; rfl) | (rw [wdV, if_pos hok, wdS_len]; done) | (rw [hok]; done)) (by first | (rw [wdV, if_neg (by assumption)]; done) | (rw [wdV, if_neg (by assumption)]; rfl) | rfl | (rw [wdV, if_pos hok, show n = 20 by omega]; done) | (rw [wdV, if_pos hok, show n = 20 by omega]; rfl) | (rw [wdV, if_pos hok, wdS_len]; done) | (rw [hok]; done))) (RVal.is rfl rfl (by first | (rw [wdV, if_neg (by assumption)]; done) | (rw [wdV, if_neg (by assumption)]; rfl) | rfl | (rw [wdV, if_pos hok, show n = 20 by omega]; done) | (rw [wdV, if_pos hok, show n = 20 by omega]; rfl) | (rw [wdV, if_pos hok, wdS_len]; done) | (rw [hok]; done)))
      done)
  · try simp only [decide_eq_false_iff_not, ne_eq] at hb1
    all_goals (
      refine W_skip ?_
      refine thenQ_n ?_
      refine W_seq ?_
      have hok : (sndV l).2 = 0 := by first | assumption | omega
      obtain ⟨hs1, hs2⟩ := snd_bd hok
      refine W_regionE (c := 8) (c' := 13) (by kernel_rfl) rfl ?_
      refine Runs_p rfl (Valid.movek (A := Sl 1 _ _) rfl rfl) rfl rfl ?_
      refine Runs_p rfl (Valid.len rfl Try.underlying22 (Reads.sl rfl)) rfl rfl ?_
      refine Runs_w rfl (Valid.makeE (fun p : Int × Int => [Value.int .i64 p.1, Value.int .u64 p.2]) (0, 0) rfl Try.underlying57 tzE63 rfl rfl rfl rfl (by omega) (by omega) (by omega)) rfl rfl ?_
      refine Runs_w rfl (Valid.alloc [(Value.slice none 0 0)] rfl zv57 rfl) rfl rfl ?_
      refine Runs_op rfl (Valid.store rfl sz57 rfl rfl (Nat.le_of_ble_eq_true rfl) (One.mrow rfl)) rfl ?_
      refine Runs_nil ?_
      refine thenQ_n ?_
      refine W_seq ?_
      refine W_regionE (c := 13) (c' := 14) (by kernel_rfl) rfl ?_
      refine Runs_w rfl (Valid.alloc [(Value.int .u64 0)] rfl zv51 rfl) rfl rfl ?_
      refine Runs_nil ?_
      refine thenQ_n ?_
      refine W_seq ?_
      refine W_seq ?_
      refine W_regionE (c := 14) (c' := 16) (by kernel_rfl) rfl ?_
      refine Runs_w rfl (Valid.alloc [(Value.int .i64 0)] rfl zv3 rfl) rfl rfl ?_
      refine Runs_op rfl (Valid.store rfl sz3 rfl rfl (Nat.le_of_ble_eq_true rfl) (One.is rfl rfl rfl)) rfl ?_
      refine Runs_nil ?_
      refine thenQ_n ?_
      refine W_block ?_
      refine W_loopx (G := Nat) (fun (n : Nat) => n ≤ 20) [(0, Sl 1 _ _), (5, Ptr 88 0), (6, Ptr 104 0), (7, Ptr 112 0)] (fun (n : Nat) => []) [] (fun (n : Nat) => [(88, .var 57 [Mrow 80 l.length]), (104, .var 51 [Is (.int .u64 (wdS l n).2)]), (112, .var 3 [Is (.int .i64 ((n : Int) + 1))]), (80, .arr 63 (((wdS l n).1).flatMap (fun p : Int × Int => [Value.int .i64 p.1, Value.int .u64 p.2])))]) 16 (fun (n : Nat) => 20 - n) (0) [] (by first | trivial | omega | (simp; omega)) ⟨trivial, ⟨(leq_sl (Reads.sl rfl) rfl rfl rfl), (leq_ptr rfl rfl rfl), (leq_ptr rfl rfl rfl), (leq_ptr rfl rfl rfl), trivial⟩, ⟨hp_var rfl ⟨(leq_mrow rfl rfl rfl (by first | rfl | (simp; done))), trivial⟩, hp_var rfl ⟨(leq_is rfl rfl (by first | rfl | (simp; done))), trivial⟩, hp_var rfl ⟨(leq_is rfl rfl (by first | rfl | (simp; done))), trivial⟩, hp_arrE rfl (by first | rfl | (simp; done)), trivial⟩, trivial, rfl, trivial, ⟨supg rfl, supg rfl, supg rfl, supg rfl, trivial⟩, ⟨suph rfl rfl, suph rfl rfl, suph rfl rfl, suph rfl rfl, trivial⟩, trivial, rfl, rfl⟩ ?_
      intro n hI1
      have hwl := wdS_len l n
      have hwb := wdS_bd l hs1 n
      have hp2 := pow20 hI1
      have hol := olA_le l ((n : Int) + 1) l.length
      refine W_seq ?_
      refine W_seq ?_
      refine W_regionE (c := 16) (c' := 18) (by kernel_rfl) rfl ?_
      refine Runs_p rfl (Valid.load _ rfl ag3 rfl rfl rfl) rfl rfl ?_
      refine Runs_p rfl (Valid.leq rfl rfl rfl) rfl rfl ?_
      refine Runs_nil ?_
      refine thenQ_n ?_
      refine W_cond _ rfl (fun hb2 => ?_) (fun hb2 => ?_)
      · try simp only [decide_eq_true_eq] at hb2
        all_goals (
          refine W_skip ?_
          refine thenQ_n ?_
          refine W_seq ?_
          refine W_block ?_
          refine W_seq ?_
          refine W_regionE (c := 18) (c' := 21) (by kernel_rfl) rfl ?_
          refine Runs_p rfl (Valid.load _ rfl ag51 rfl rfl rfl) rfl rfl ?_
          refine Runs_p rfl (Valid.mulw rfl rfl rfl) rfl rfl ?_
          refine Runs_op rfl (Valid.store rfl sz51 rfl rfl (Nat.le_of_ble_eq_true rfl) (One.is rfl rfl rfl)) rfl ?_
          refine Runs_nil ?_
          refine thenQ_n ?_
          refine W_seq ?_
          refine W_regionE (c := 21) (c' := 24) (by kernel_rfl) rfl ?_
          refine Runs_p rfl (Valid.movek (A := Sl 1 _ _) rfl rfl) rfl rfl ?_
          refine Runs_p rfl (Valid.load _ rfl ag3 rfl rfl rfl) rfl rfl ?_
          refine Runs_p rfl (Valid.call rfl (of_s _ _) ⟨argle_sl (Reads.sl rfl), argle rfl, trivial⟩) rfl rfl ?_
          refine Runs_nil ?_
          refine thenQ_n ?_
          refine W_block ?_
          refine W_range (n := (olL l ((n : Int) + 1)).length) (vals := fun q => [Is (.int .i64 (((olL l ((n : Int) + 1)).getD q 0 : Nat) : Int))]) (go := fun _ => true) (jc := .ret) (h0 := [(1, .var 57 [Mrow 4 _]), (2, .var 51 [Is _]), (3, .var 3 [Is _]), (4, .arr 63 _)]) (hin := fun k => [(1, .var 57 [Mrow 4 l.length]), (2, .var 51 [Is (.int .u64 (2 * (wdS l n).2 + (k : Int)))]), (3, .var 3 [Is (.int .i64 ((n : Int) + 1))]), (4, .arr 63 ((setS (wdS l n).1 ((n : Int) + 1) (2 * (wdS l n).2) ((olL l ((n : Int) + 1)).take k)).flatMap (fun p : Int × Int => [Value.int .i64 p.1, Value.int .u64 p.2])))]) (hin' := fun k => [(88, .var 57 [Mrow 80 l.length]), (104, .var 51 [Is (.int .u64 (2 * (wdS l n).2 + (k : Int)))]), (112, .var 3 [Is (.int .i64 ((n : Int) + 1))]), (80, .arr 63 ((setS (wdS l n).1 ((n : Int) + 1) (2 * (wdS l n).2) ((olL l ((n : Int) + 1)).take k)).flatMap (fun p : Int × Int => [Value.int .i64 p.1, Value.int .u64 p.2])))]) (fx := [(5, Ptr 1 0), (6, Ptr 2 0), (7, Ptr 3 0)]) [(1, 88), (2, 104), (3, 112), (4, 80)] [] rfl (capsOk_fv rfl (capsOk_fz capsOk_nil)) (of_it l ((n : Int) + 1) (by omega)) (by kernel_rfl) (fun _ => rfl) (fun _ => valsOk_is [_]) (by kernel_rfl) ⟨(leq_ptr rfl rfl rfl), (leq_ptr rfl rfl rfl), (leq_ptr rfl rfl rfl), trivial⟩ (fun _ => by kernel_rfl) ⟨⟨_, rfl, .var ⟨(leq_mrow rfl rfl rfl rfl), trivial⟩⟩, ⟨_, rfl, .var ⟨(leq_is rfl rfl rfl), trivial⟩⟩, ⟨_, rfl, .var ⟨(leq_is rfl rfl rfl), trivial⟩⟩, ⟨_, rfl, .arr rfl⟩, trivial⟩ (by kernel_rfl) (by kernel_rfl) (by kernel_rfl) ⟨hp_var rfl ⟨(leq_mrow rfl rfl rfl (by first | rfl | (refine congrArg (Value.int .u64) ?_; rw [IntKind.wrap_u64, Int.emod_eq_of_lt (by omega) (by omega)]; omega))), trivial⟩, hp_var rfl ⟨(leq_is rfl rfl (by first | rfl | (refine congrArg (Value.int .u64) ?_; rw [IntKind.wrap_u64, Int.emod_eq_of_lt (by omega) (by omega)]; omega))), trivial⟩, hp_var rfl ⟨(leq_is rfl rfl (by first | rfl | (refine congrArg (Value.int .u64) ?_; rw [IntKind.wrap_u64, Int.emod_eq_of_lt (by omega) (by omega)]; omega))), trivial⟩, hp_arrE rfl (by first | rfl | (refine congrArg (Value.int .u64) ?_; rw [IntKind.wrap_u64, Int.emod_eq_of_lt (by omega) (by omega)]; omega)), trivial⟩ (by kernel_rfl) (by kernel_rfl) (fun _ => by kernel_rfl) (fun _ => by kernel_rfl) (fun _ => (hpup_cons (j := 88) rfl (cup_var (allup_cons (up_mrow (id' := 80) rfl) allup_nil)) (hpup_cons (j := 104) rfl (cup_var (allup_cons (up_pure rfl) allup_nil)) (hpup_cons (j := 112) rfl (cup_var (allup_cons (up_pure rfl) allup_nil)) (hpup_cons (j := 80) rfl cup_arr hpup_nil))))) (by kernel_rfl) (fun _ => by kernel_rfl) ?_ ?_ ?_
          · intro k hk1 hgo1
            have hol2 : (olL l ((n : Int) + 1)).length ≤ l.length := hol
            have hlt := ol_lt hk1
            have hsl := setS_len ((n : Int) + 1) ((olL l ((n : Int) + 1)).take k) (wdS l n).1 (2 * (wdS l n).2)
            refine W_regionE (c := 2) (c' := 3) (by kernel_rfl) rfl ?_
            refine Runs_p rfl (Valid.assignk (A := Is _) rfl rfl) rfl rfl ?_
            refine Runs_nil ?_
            refine ⟨rfl, ?_⟩
            refine W_block ?_
            refine W_seq ?_
            refine W_regionE (c := 3) (c' := 10) (by kernel_rfl) rfl ?_
            refine Runs_p rfl (Valid.load _ rfl ag57 rfl rfl rfl) rfl rfl ?_
            refine Runs_p rfl (Valid.movek (A := Is _) rfl rfl) rfl rfl ?_
            refine Runs_p rfl (Valid.load _ rfl ag3 rfl rfl rfl) rfl rfl ?_
            refine Runs_p rfl (Valid.load _ rfl ag51 rfl rfl rfl) rfl rfl ?_
            refine Runs_p rfl (Valid.struct [_, _] rfl rfl (fun _ => by kernel_rfl)) rfl rfl ?_
            refine Runs_p rfl (Valid.idxM rfl Try.underlying57 sz63 rfl rfl (by omega)) rfl rfl ?_
            refine Runs_op rfl (Valid.storeE (f := (fun p : Int × Int => [Value.int .i64 p.1, Value.int .u64 p.2])) (e := 2) _ (_, _) rfl (fun _ => rfl) sz63 rfl rfl rfl (by omega) rfl rfl) rfl ?_
            refine Runs_nil ?_
            refine thenQ_n ?_
            refine W_regionE (c := 10) (c' := 13) (by kernel_rfl) rfl ?_
            refine Runs_p rfl (Valid.load _ rfl ag51 rfl rfl rfl) rfl rfl ?_
            refine Runs_p rfl (Valid.addw rfl rfl rfl) rfl rfl ?_
            refine Runs_op rfl (Valid.store rfl sz51 rfl rfl (Nat.le_of_ble_eq_true rfl) (One.is rfl rfl rfl)) rfl ?_
            refine Runs_nil ?_
            refine blockQ_n ?_
            exact roundQ_n [] (by first | rfl | assumption) ⟨hp_var rfl ⟨(leq_mrow rfl rfl rfl (by first | rfl | exact congrArg (List.flatMap _) (set_k hk1) | (refine congrArg (Value.int .u64) ?_; rw [IntKind.wrap_u64, Int.emod_eq_of_lt (by omega) (by omega)]; omega))), trivial⟩, hp_var rfl ⟨(leq_is rfl rfl (by first | rfl | exact congrArg (List.flatMap _) (set_k hk1) | (refine congrArg (Value.int .u64) ?_; rw [IntKind.wrap_u64, Int.emod_eq_of_lt (by omega) (by omega)]; omega))), trivial⟩, hp_var rfl ⟨(leq_is rfl rfl (by first | rfl | exact congrArg (List.flatMap _) (set_k hk1) | (refine congrArg (Value.int .u64) ?_; rw [IntKind.wrap_u64, Int.emod_eq_of_lt (by omega) (by omega)]; omega))), trivial⟩, hp_arrE rfl (by first | rfl | exact congrArg (List.flatMap _) (set_k hk1) | (refine congrArg (Value.int .u64) ?_; rw [IntKind.wrap_u64, Int.emod_eq_of_lt (by omega) (by omega)]; omega)), trivial⟩ rfl rfl
          · intro hall1
            refine blockQ_n ?_
            refine blockQ_n ?_
            refine thenQ_n ?_
            refine W_seq ?_
            refine W_seq ?_
            refine W_regionE (c := 25) (c' := 26) (by kernel_rfl) rfl ?_
            refine Runs_p rfl (Valid.load _ rfl ag3 rfl rfl rfl) rfl rfl ?_
            refine Runs_nil ?_
            refine thenQ_n ?_
            refine W_regionE (c := 26) (c' := 28) (by kernel_rfl) rfl ?_
            refine Runs_w rfl (Valid.alloc [(Value.int .i64 0)] rfl zv3 rfl) rfl rfl ?_
            refine Runs_op rfl (Valid.store rfl sz3 rfl rfl (Nat.le_of_ble_eq_true rfl) (One.is rfl rfl rfl)) rfl ?_
            refine Runs_nil ?_
            refine thenQ_n ?_
            refine W_regionE (c := 28) (c' := 31) (by kernel_rfl) rfl ?_
            refine Runs_p rfl (Valid.load _ rfl ag3 rfl rfl rfl) rfl rfl ?_
            refine Runs_p rfl (Valid.add rfl rfl rfl (room64 (by omega) (by omega))) rfl rfl ?_
            refine Runs_op rfl (Valid.store rfl sz3 rfl rfl (Nat.le_of_ble_eq_true rfl) (One.is rfl rfl rfl)) rfl ?_
            refine Runs_nil ?_
            refine LoopQ.next (n + 1) [(112, 208)] (by omega) (by omega) ⟨trivial, ⟨(leq_sl (Reads.sl rfl) rfl rfl rfl), (leq_ptr rfl rfl rfl), (leq_ptr rfl rfl rfl), (leq_ptr rfl rfl rfl), trivial⟩, ⟨hp_var rfl ⟨(leq_mrow rfl rfl rfl (by first | rfl | (rw [wd_1]; done) | exact congrArg (List.flatMap _) (wd_1 l n).symm | exact congrArg (Value.int .u64) (wd_2 l n).symm | (refine congrArg (Value.int .i64) ?_; omega))), trivial⟩, hp_var rfl ⟨(leq_is rfl rfl (by first | rfl | (rw [wd_1]; done) | exact congrArg (List.flatMap _) (wd_1 l n).symm | exact congrArg (Value.int .u64) (wd_2 l n).symm | (refine congrArg (Value.int .i64) ?_; omega))), trivial⟩, hp_var rfl ⟨(leq_is rfl rfl (by first | rfl | (rw [wd_1]; done) | exact congrArg (List.flatMap _) (wd_1 l n).symm | exact congrArg (Value.int .u64) (wd_2 l n).symm | (refine congrArg (Value.int .i64) ?_; omega))), trivial⟩, hp_arrE rfl (by first | rfl | (rw [wd_1]; done) | exact congrArg (List.flatMap _) (wd_1 l n).symm | exact congrArg (Value.int .u64) (wd_2 l n).symm | (refine congrArg (Value.int .i64) ?_; omega)), trivial⟩, trivial, rfl, trivial, ⟨supg rfl, supg rfl, supg rfl, supg rfl, trivial⟩, ⟨suph rfl rfl, suph rfl rfl, suph rfl rfl, suph rfl rfl, trivial⟩, trivial, rfl, rfl⟩
          · intro k hk1 hgo1 hgk1
            exact absurd hgk1 (by decide)
            
          done)
      · try simp only [decide_eq_false_iff_not] at hb2
        all_goals (
          refine W_exit ?_
          refine thenQ_e ?_
          refine loopQ_e ?_
          refine blockQ_x ?_
          refine thenQ_n ?_
          refine W_seq ?_
          refine W_regionE (c := 18) (c' := 21) (by kernel_rfl) rfl ?_
          refine Runs_p rfl (Valid.load _ rfl ag57 rfl rfl rfl) rfl rfl ?_
          refine Runs_p rfl (Valid.assignk (A := Mrow 80 _) rfl rfl) rfl rfl ?_
          refine Runs_p rfl (Valid.assignk (A := Is _) rfl rfl) rfl rfl ?_
          refine Runs_nil ?_
          refine thenQ_n ?_
          refine W.ent ?_ (Ent.freezeE 2 80 _ 2 rfl rfl (by first | (rw [flat_len (e := 2) (fun _ => rfl), wdS_len]; done)) (by simp only [maxLen]; omega))
          refine W_ret ?_
          refine finQ_r ?_
          refine ResOk.two rfl (RVal.sl (Reads.sl rfl) rfl (by first | (rw [wdV, if_neg (by assumption)]; done) | (rw [wdV, if_neg (by assumption)]; rfl) | rfl | (rw [wdV, if_pos hok, show n = 20 by omega]; done) | (rw [wdV, if_pos hok, show n = 20 by omega]; rfl) | (rw [wdV, if_pos hok, wdS_len]; done) | (rw [hok]; done)) (by first | (rw [wdV, if_neg (by assumption)]; done) | (rw [wdV, if_neg (by assumption)]; rfl) | rfl | (rw [wdV, if_pos hok, show n = 20 by omega]; done) | (rw [wdV, if_pos hok, show n = 20 by omega]; rfl) | (rw [wdV, if_pos hok, wdS_len]; done) | (rw [hok]; done))) (RVal.is rfl rfl (by first | (rw [wdV, if_neg (by assumption)]; done) | (rw [wdV, if_neg (by assumption)]; rfl) | rfl | (rw [wdV, if_pos hok, show n = 20 by omega]; done) | (rw [wdV, if_pos hok, show n = 20 by omega]; rfl) | (rw [wdV, if_pos hok, wdS_len]; done) | (rw [hok]; done)))
          done)
      done)
end Oe
end Go.Proofs.Ytdcenocljnlipaa
