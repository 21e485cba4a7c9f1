/-
  WALKS of stage 10: weights are joined.
-/
import Derived.Test.YtdcenocljnlipaaRows
import Derived.Test.YtdcenocljnlipaaMgc
import Derived.Test.YtdcenocljnlipaaWa
import Derived.Test.YtdcenocljnlipaaWb
import Derived.Test.YtdcenocljnlipaaWm
namespace Go.Proofs.Ytdcenocljnlipaa
open Go.RowKit
namespace Wc
open Ab Wa Wb Wm
theorem ag3 (w : World) : (isAgg 3).run Try.prog w = .ok false w := by kernel_rfl
theorem sz3 (w : World) : (sizeOf 3).run Try.prog w = .ok 1 w := by kernel_rfl
theorem sz79 (w : World) : (sizeOf 79).run Try.prog w = .ok 2 w := by kernel_rfl
theorem sz83 (w : World) : (sizeOf 83).run Try.prog w = .ok 2 w := by kernel_rfl
theorem tzv3 : (Try.prog.info? 3).map (fun i => (i.zero, i.size, i.bytes)) = some (some ((Value.int .i64) 0), 1, 8) := by kernel_rfl
theorem zv79 (w : World) : (zeroValue 79).run Try.prog w = .ok (.agg #[(Value.int .i64 0), (Value.int .i64 0)]) w := by kernel_rfl
theorem zv83 (w : World) : (zeroValue 83).run Try.prog w = .ok (.agg #[(Value.slice none 0 0), Value.nilFunc]) w := by kernel_rfl
theorem up_len : ∀ (a : Nat) (l : List Tr), (upL l a).length = l.length := by
  intro a
  induction a using Nat.strongRecOn with
  | ind a ih =>
    intro l
    by_cases c : 0 < a ∧ ahd (l.getD a (0, 0)) (l.getD ((a - 1) / 2) (0, 0)) = true
    · rw [up_y c.1 c.2, ih _ (by omega), swp_len]
    · rw [up_n c]
/-- the heap, as far as k of the weights -/
def jq (w : List Int) : Nat → List Tr
  | 0 => []
  | k + 1 => upL (jq w k ++ [(w.getD k 0, (k : Int))]) (jq w k).length
theorem jq_len (w : List Int) : ∀ k, (jq w k).length = k
  | 0 => rfl
  | k + 1 => by rw [jq, up_len, List.length_append, jq_len w k]; rfl
theorem jq_heap (w : List Int) : ∀ k, Heap (jq w k)
  | 0 => fun i hi hl => by simp [jq] at hl
  | k + 1 => (put_heap (jq_heap w k) _).1
def ws (l : List Tr) : Int := (l.map Prod.fst).sum
theorem ws_cons (x : Tr) (l : List Tr) : ws (x :: l) = x.1 + ws l := rfl
theorem ws_perm {l m : List Tr} (h : l.Perm m) : ws l = ws m := by
  induction h with
  | nil => rfl
  | cons x _ ih => rw [ws_cons, ws_cons, ih]
  | swap x y l => rw [ws_cons, ws_cons, ws_cons, ws_cons]; omega
  | trans _ _ i1 i2 => exact i1.trans i2
theorem ws_snoc (l : List Tr) (x : Tr) : ws (l ++ [x]) = ws l + x.1 := by
  rw [ws_perm (List.perm_append_comm (l₁ := l) (l₂ := [x])), List.singleton_append, ws_cons]; omega
/-- what all in the heap are like -/
def Ok (l : List Tr) (b : Int) : Prop := ∀ p ∈ l, 0 ≤ p.1 ∧ 0 ≤ p.2 ∧ p.2 < b
theorem Ok.perm {l m : List Tr} {b : Int} (h : Ok l b) (hp : m.Perm l) : Ok m b := fun p hp2 => h p (hp.mem_iff.1 hp2)
theorem Ok.le {l : List Tr} {b c : Int} (h : Ok l b) (hbc : b ≤ c) : Ok l c := fun p hp => by have := h p hp; omega
theorem Ok.snoc {l : List Tr} {b : Int} (h : Ok l b) {x : Tr} (hx : 0 ≤ x.1 ∧ 0 ≤ x.2 ∧ x.2 < b) : Ok (l ++ [x]) b := fun p hp => by
  rcases List.mem_append.1 hp with h1 | h1
  · exact h p h1
  · simp at h1; rw [h1]; exact hx
theorem Ok.ws {l : List Tr} {b : Int} (h : Ok l b) : 0 ≤ ws l := by
  induction l with
  | nil => exact Int.le_refl _
  | cons x l ih =>
    rw [ws_cons]
    have := h x (by simp)
    have := ih (fun p hp => h p (by simp [hp]))
    omega
/-- one round: the two least are joined -/
def jst (w : List Int) : Nat → List Tr × List Int
  | 0 => (jq w w.length, List.replicate (2 * w.length - 1) 0)
  | r + 1 => (upL (rest (rest (jst w r).1) ++ [((gt (jst w r).1 0).1 + (gt (rest (jst w r).1) 0).1, ((w.length : Int) + (r : Int)))]) (rest (rest (jst w r).1)).length,
      ((jst w r).2.set (gt (jst w r).1 0).2.toNat ((w.length : Int) + (r : Int))).set (gt (rest (jst w r).1) 0).2.toNat ((w.length : Int) + (r : Int)))
structure Inv (w : List Int) (r : Nat) : Prop where
  heap : Heap (jst w r).1
  len : (jst w r).1.length = w.length - r
  ok : Ok (jst w r).1 (w.length + r)
  sum : ws (jst w r).1 = ws (jq w w.length)
  wl : (jst w r).2.length = 2 * w.length - 1
  wi : ∀ x ∈ (jst w r).2, 0 ≤ x ∧ x < 2 * (w.length : Int) - 1
theorem jq_ok {w : List Int} (hw : ∀ x ∈ w, 0 ≤ x) : ∀ k, k ≤ w.length → Ok (jq w k) k
  | 0, _ => fun p hp => by simp [jq] at hp
  | k + 1, hk => by
    have ih := jq_ok hw k (by omega)
    refine Ok.perm (Ok.snoc (ih.le (by omega)) ⟨?_, by simp, by simp; omega⟩) (put_heap (jq_heap w k) _).2
    have : w.getD k 0 ∈ w := by rw [List.getD_eq_getElem?_getD, List.getElem?_eq_getElem (by omega)]; exact List.getElem_mem _
    exact hw _ this
theorem rest_len {l : List Tr} (h : Heap l) (h0 : 0 < l.length) : (rest l).length = l.length - 1 := by
  have := (take_heap h h0).2.length_eq
  rw [List.length_cons] at this; omega
theorem gt_mem {l : List Tr} {i : Nat} (h : i < l.length) : gt l i ∈ l := by
  show l.getD i (0, 0) ∈ l
  rw [List.getD_eq_getElem?_getD, List.getElem?_eq_getElem h]; exact List.getElem_mem h
structure Two (w : List Int) (r : Nat) : Prop where
  l0 : 2 ≤ (jst w r).1.length
  l1 : (rest (jst w r).1).length = (jst w r).1.length - 1
  l2 : (rest (rest (jst w r).1)).length = (jst w r).1.length - 2
  o1 : 0 ≤ (gt (jst w r).1 0).1 ∧ 0 ≤ (gt (jst w r).1 0).2 ∧ (gt (jst w r).1 0).2 < w.length + r
  o2 : 0 ≤ (gt (rest (jst w r).1) 0).1 ∧ 0 ≤ (gt (rest (jst w r).1) 0).2 ∧ (gt (rest (jst w r).1) 0).2 < w.length + r
  sm : (gt (jst w r).1 0).1 + (gt (rest (jst w r).1) 0).1 + ws (rest (rest (jst w r).1)) = ws (jq w w.length)
  nn : 0 ≤ ws (rest (rest (jst w r).1))
  ok : Ok (rest (rest (jst w r).1)) (w.length + r)
  hp : Heap (rest (rest (jst w r).1))
theorem two {w : List Int} {r : Nat} (h : Inv w r) (hr : r + 1 < w.length) : Two w r := by
  have hl := h.len
  obtain ⟨a1, a2⟩ := take_heap h.heap (by omega)
  have al := rest_len h.heap (by omega)
  obtain ⟨b1, b2⟩ := take_heap a1 (by omega)
  have bl := rest_len a1 (by omega)
  have ok1 : Ok (rest (jst w r).1) (w.length + r) := fun p hp => h.ok p (a2.mem_iff.1 (List.mem_cons_of_mem _ hp))
  have ok2 : Ok (rest (rest (jst w r).1)) (w.length + r) := fun p hp => ok1 p (b2.mem_iff.1 (List.mem_cons_of_mem _ hp))
  have s1 := ws_perm a2
  have s2 := ws_perm b2
  rw [ws_cons] at s1 s2
  have s3 := h.sum
  exact ⟨by omega, al, by omega, h.ok _ (gt_mem (by omega)), ok1 _ (gt_mem (by omega)), by omega, ok2.ws, ok2, b1⟩
theorem inv {w : List Int} (hw : ∀ x ∈ w, 0 ≤ x) (h2 : 2 ≤ w.length) : ∀ r, r + 1 ≤ w.length → Inv w r
  | 0, _ => ⟨jq_heap w _, by rw [jst, jq_len]; omega, by show Ok (jq w w.length) ((w.length : Int) + ((0 : Nat) : Int)); exact (jq_ok hw w.length (Nat.le_refl _)).le (by omega), rfl, by rw [jst, List.length_replicate], fun x hx => by
      rw [jst] at hx
      rw [List.eq_of_mem_replicate hx]; omega⟩
  | r + 1, hr => by
    have ih := inv hw h2 r (by omega)
    have t := two ih (by omega)
    have hl := ih.len
    have hp := put_heap t.hp ((gt (jst w r).1 0).1 + (gt (rest (jst w r).1) 0).1, ((w.length : Int) + (r : Int)))
    have o1 := t.o1
    have o2 := t.o2
    refine ⟨hp.1, ?_, ?_, ?_, ?_, fun x hx => ?_⟩
    · rw [jst, up_len, List.length_append, t.l2]; simp; omega
    · refine Ok.perm (Ok.snoc (t.ok.le (by omega)) ⟨?_, ?_, ?_⟩) hp.2 <;> simp only <;> omega
    · have := ws_perm hp.2
      rw [ws_snoc] at this
      have hs := t.sm
      show ws (upL _ _) = _
      rw [this]
      simp only
      omega
    · rw [jst, List.length_set, List.length_set]; exact ih.wl
    · rw [jst] at hx
      rcases List.mem_or_eq_of_mem_set hx with h1 | h1
      · rcases List.mem_or_eq_of_mem_set h1 with h3 | h3
        · exact ih.wi x h3
        · rw [h3]; omega
      · rw [h1]; omega
/-- how deep each one is, from the last one on -/
def dpt (l : List Int) (n : Nat) : Nat → List Int
  | 0 => List.replicate n 0
  | j + 1 => (dpt l n j).set (n - 2 - j) ((dpt l n j).getD (l.getD (n - 2 - j) 0).toNat 0 + 1)
theorem dpt_len (l : List Int) (n : Nat) : ∀ j, (dpt l n j).length = n
  | 0 => by rw [dpt, List.length_replicate]
  | j + 1 => by rw [dpt, List.length_set, dpt_len l n j]
theorem dpt_bd (l : List Int) (n : Nat) : ∀ j, ∀ x ∈ dpt l n j, 0 ≤ x ∧ x ≤ j
  | 0 => fun x hx => by rw [dpt] at hx; rw [List.eq_of_mem_replicate hx]; simp
  | j + 1 => fun x hx => by
    have ih := dpt_bd l n j
    rw [dpt] at hx
    rcases List.mem_or_eq_of_mem_set hx with h1 | h1
    · have := ih x h1; omega
    · rw [h1]
      by_cases hc : (l.getD (n - 2 - j) 0).toNat < (dpt l n j).length
      · have := ih _ (show (dpt l n j).getD (l.getD (n - 2 - j) 0).toNat 0 ∈ dpt l n j by rw [List.getD_eq_getElem?_getD, List.getElem?_eq_getElem hc]; exact List.getElem_mem hc)
        omega
      · rw [List.getD_eq_getElem?_getD, List.getElem?_eq_none (by omega)]; simp; omega
theorem get_bd {l : List Int} {b : Int} (h : ∀ x ∈ l, 0 ≤ x ∧ x < b) {i : Nat} (hi : i < l.length) : 0 ≤ l.getD i 0 ∧ l.getD i 0 < b :=
  h _ (by rw [List.getD_eq_getElem?_getD, List.getElem?_eq_getElem hi]; exact List.getElem_mem hi)
theorem get_bd2 {l : List Int} {b : Int} (h : ∀ x ∈ l, 0 ≤ x ∧ x ≤ b) {i : Nat} (hi : i < l.length) : 0 ≤ l.getD i 0 ∧ l.getD i 0 ≤ b :=
  h _ (by rw [List.getD_eq_getElem?_getD, List.getElem?_eq_getElem hi]; exact List.getElem_mem hi)
def joinV (w : List Int) : List Int := (dpt (jst w (w.length - 1)).2 (2 * w.length - 1) (2 * w.length - 2)).take w.length

set_option maxRecDepth 100000 in
set_option maxHeartbeats 1000000 in
theorem join_s (w : List Int) (hw : ∀ x ∈ w, 0 ≤ x) (h2 : 2 ≤ w.length) (hl : w.length ≤ 300) (hs : ws (jq w w.length) ≤ 1000000000000) :
    FMem Try.prog 38 [Buf 1 w.length] [(1, .buf 3 (w.map (Value.int .i64)))] (Sl 1 w.length ((joinV w).map (Value.int .i64))) [(1, .buf 3 (w.map (Value.int .i64)))] := by
  refine FMem.of Try.func38 Try.ntmps38 rfl (by kernel_rfl) rfl rfl rfl ?_
  refine W_seq ?_
  refine W_regionE (c := 1) (c' := 2) (by kernel_rfl) rfl ?_
  refine Runs_p rfl (Valid.assignk (A := Is (.slice none 0 0)) rfl rfl) rfl rfl ?_
  refine Runs_nil ?_
  refine thenQ_n ?_
  refine W_seq ?_
  refine W_regionE (c := 2) (c' := 5) (by kernel_rfl) rfl ?_
  refine Runs_p rfl (Valid.build1 [(Value.slice none 0 0)] [] rfl rfl (fun _ => by kernel_rfl)) rfl rfl ?_
  refine Runs_w rfl (Valid.alloc [(Value.slice none 0 0), Value.nilFunc] rfl zv83 rfl) rfl rfl ?_
  refine Runs_op rfl (Valid.storeagg (l := [_, _]) rfl sz83 rfl rfl (Nat.le_of_ble_eq_true rfl) rfl ⟨(One.sl (e := 1) (Reads.nil rfl)), (One.is rfl rfl rfl), trivial⟩) rfl ?_
  refine Runs_nil ?_
  refine thenQ_n ?_
  refine W_seq ?_
  refine W_seq ?_
  refine W_regionE (c := 5) (c' := 8) (by kernel_rfl) rfl ?_
  refine Runs_p rfl (Valid.movek (A := Buf 1 _) rfl rfl) rfl rfl ?_
  refine Runs_p rfl (Valid.lenB rfl Try.underlying22 rfl) rfl rfl ?_
  refine Runs_p rfl (Valid.movek (A := Is _) rfl rfl) rfl rfl ?_
  refine Runs_nil ?_
  refine thenQ_n ?_
  refine W_block ?_
  refine W.ent ?_ (Ent.bfznilat 24 0 79 2 rfl rfl)
  refine W_loopx (G := Nat) (fun (k : Nat) => k ≤ w.length) [(0, Buf 1 _), (3, Ptr 24 0), (14, Buf 1 _), (15, Is _)] (fun (k : Nat) => [(16, Is (.int .i64 (k : Int)))]) [(1, .buf 3 _)] (fun (k : Nat) => [(24, .var 83 [Bfz 64 k, FnV 52 [] []]), (64, .bfe 79 2 ((jq w k).flatMap (fun p : Int × Int => [Value.int .i64 p.1, Value.int .i64 p.2])))]) 9 (fun (k : Nat) => w.length - k) (0) [] (by first | trivial | omega | (simp; omega)) ⟨⟨(leq_is rfl rfl (by first | rfl | omega)), trivial⟩, ⟨(leq_buf rfl rfl rfl (by first | rfl | omega)), (leq_ptr rfl rfl rfl), (leq_buf rfl rfl rfl (by first | rfl | omega)), (leq_is rfl rfl rfl), trivial⟩, ⟨hp_var rfl ⟨(leq_bfz rfl rfl rfl (by first | rfl | omega)), (leq_isfn rfl rfl), trivial⟩, hp_bfe rfl (by first | rfl | omega), trivial⟩, ⟨hp_buf rfl rfl, trivial⟩, rfl, ⟨supg rfl, trivial⟩, ⟨supg rfl, supg rfl, supg rfl, supg rfl, trivial⟩, ⟨suph rfl rfl, suph rfl rfl, trivial⟩, ⟨suph rfl rfl, trivial⟩, rfl, rfl⟩ ?_
  intro k hI1
  have hjl := jq_len w k
  refine W_seq ?_
  refine W_regionE (c := 9) (c' := 10) (by kernel_rfl) rfl ?_
  refine Runs_p rfl (Valid.lss rfl rfl rfl) rfl rfl ?_
  refine Runs_nil ?_
  refine thenQ_n ?_
  refine W_seq ?_
  refine W_cond _ rfl (fun hb1 => ?_) (fun hb1 => ?_)
  · try simp only [decide_eq_true_eq] at hb1
    all_goals (
      refine W_skip ?_
      refine thenQ_n ?_
      refine W_seq ?_
      refine W_block ?_
      refine W_seq ?_
      refine W_regionE (c := 10) (c' := 15) (by kernel_rfl) rfl ?_
      refine Runs_p rfl (Valid.movek (A := Is _) rfl rfl) rfl rfl ?_
      refine Runs_p rfl (Valid.idxB rfl Try.underlying22 sz3 rfl rfl (by omega)) rfl rfl ?_
      refine Runs_p rfl (Valid.loadB 0 rfl ag3 rfl rfl (by omega)) rfl rfl ?_
      refine Runs_p rfl (Valid.assignk (A := Is _) rfl rfl) rfl rfl ?_
      refine Runs_p rfl (Valid.assignk (A := Is _) rfl rfl) rfl rfl ?_
      refine Runs_nil ?_
      refine thenQ_n ?_
      refine W_regionE (c := 15) (c' := 19) (by kernel_rfl) rfl ?_
      refine Runs_p rfl (Valid.movek (A := Is _) rfl rfl) rfl rfl ?_
      refine Runs_p rfl (Valid.movek (A := Is _) rfl rfl) rfl rfl ?_
      refine Runs_p rfl (Valid.struct [_, _] rfl rfl (fun _ => by kernel_rfl)) rfl rfl ?_
      refine Runs_w rfl (Valid.callm [(1, 24), (2, 64)] rfl (.inl ⟨rfl, rfl⟩) (put_s (jq w k) (w.getD k 0, (k : Int)) (by omega)) ⟨(leq_ptr rfl rfl rfl), (leq_agg rfl rfl ⟨(leq_is rfl rfl rfl), (leq_is rfl rfl rfl), trivial⟩), trivial⟩ ⟨⟨_, rfl, .var ⟨(leq_bfz rfl rfl rfl (by first | rfl | omega)), (leq_fn rfl rfl trivial trivial), trivial⟩⟩, ⟨_, rfl, .bfe rfl⟩, trivial⟩ (up_pure rfl) (hpup_cons (j := 24) rfl (cup_var (allup_cons (up_bfz (id' := 146) rfl) (allup_cons (up_fn allup_nil allup_nil) allup_nil))) (hpup_cons (j := 146) rfl cup_bfe hpup_nil)) (by kernel_rfl) (by kernel_rfl) (by kernel_rfl) (by kernel_rfl) (by kernel_rfl) (by kernel_rfl) (by kernel_rfl) (by kernel_rfl) (by kernel_rfl)) rfl rfl ?_
      refine Runs_nil ?_
      refine blockQ_n ?_
      refine thenQ_n ?_
      refine W_regionE (c := 19) (c' := 21) (by kernel_rfl) rfl ?_
      refine Runs_p rfl (Valid.add rfl rfl rfl (room64 (by omega) (by omega))) rfl rfl ?_
      refine Runs_p rfl (Valid.movek (A := Is _) rfl rfl) rfl rfl ?_
      refine Runs_nil ?_
      refine LoopQ.next (k + 1) [(64, 146)] (by omega) (by omega) ⟨⟨(leq_is rfl rfl (by first | rfl | omega)), trivial⟩, ⟨(leq_buf rfl rfl rfl (by first | rfl | omega)), (leq_ptr rfl rfl rfl), (leq_buf rfl rfl rfl (by first | rfl | omega)), (leq_is rfl rfl rfl), trivial⟩, ⟨hp_var rfl ⟨(leq_bfz rfl rfl rfl (by first | rfl | omega)), (leq_fn rfl rfl trivial trivial), trivial⟩, hp_bfe rfl (by first | rfl | omega), trivial⟩, ⟨hp_buf rfl rfl, trivial⟩, rfl, ⟨supg rfl, trivial⟩, ⟨supg rfl, supg rfl, supg rfl, supg rfl, trivial⟩, ⟨suph rfl rfl, suph rfl rfl, trivial⟩, ⟨suph rfl rfl, trivial⟩, rfl, rfl⟩
      done)
  · try simp only [decide_eq_false_iff_not] at hb1
    all_goals (
      refine W_exit ?_
      refine thenQ_e ?_
      refine loopQ_e ?_
      refine blockQ_x ?_
      refine thenQ_n ?_
      refine W_seq ?_
      obtain rfl : k = w.length := by omega
      have eall : 2 * (w.length : Int) - 1 = ((2 * w.length - 1 : Nat) : Int) := by omega
      refine W_regionE (c := 10) (c' := 15) (by kernel_rfl) rfl ?_
      refine Runs_p rfl (Valid.movek (A := Buf 1 _) rfl rfl) rfl rfl ?_
      refine Runs_p rfl (Valid.lenB rfl Try.underlying22 rfl) rfl rfl ?_
      refine Runs_p rfl (Valid.mul rfl rfl rfl (room64 (by omega) (by omega))) rfl rfl ?_
      refine Runs_p rfl (Valid.sub rfl rfl rfl (room64 (by omega) (by omega))) rfl rfl ?_
      refine Runs_p rfl (Valid.assignk (A := Is _) rfl rfl) rfl rfl ?_
      refine Runs_nil ?_
      refine thenQ_n ?_
      refine W_seq ?_
      rw [eall]
      refine W_regionE (c := 15) (c' := 18) (by kernel_rfl) rfl ?_
      refine Runs_p rfl (Valid.movek (A := Is _) rfl rfl) rfl rfl ?_
      refine Runs_w rfl (Valid.makevar (Value.int .i64) 0 rfl Try.underlying22 tzv3 rfl rfl rfl (by omega) (by omega) (by omega)) rfl rfl ?_
      refine Runs_p rfl (Valid.assignk (A := Mrow 128 _) rfl rfl) rfl rfl ?_
      refine Runs_nil ?_
      refine thenQ_n ?_
      refine W_seq ?_
      refine W_seq ?_
      refine W_regionE (c := 18) (c' := 21) (by kernel_rfl) rfl ?_
      refine Runs_p rfl (Valid.movek (A := Buf 1 _) rfl rfl) rfl rfl ?_
      refine Runs_p rfl (Valid.lenB rfl Try.underlying22 rfl) rfl rfl ?_
      refine Runs_p rfl (Valid.assignk (A := Is _) rfl rfl) rfl rfl ?_
      refine Runs_nil ?_
      refine thenQ_n ?_
      refine W_block ?_
      refine W_loopx (G := Nat) (fun (r : Nat) => r + 1 ≤ w.length) [(0, Buf 1 _), (3, Ptr 24 0), (6, Is _), (7, Mrow 128 _)] (fun (r : Nat) => [(8, Is (.int .i64 ((w.length : Int) + (r : Int))))]) [(1, .buf 3 _)] (fun (r : Nat) => [(24, .var 83 [Bfz 64 (w.length - r), FnV 52 [] []]), (128, .var 3 (Arr (Value.int .i64) ((jst w r).2))), (64, .bfe 79 2 (((jst w r).1).flatMap (fun p : Int × Int => [Value.int .i64 p.1, Value.int .i64 p.2])))]) 21 (fun (r : Nat) => w.length - r) (0) [] (by omega) ⟨⟨(leq_is rfl rfl (by first | rfl | omega | exact congrArg (Value.int .i64) (by omega))), trivial⟩, ⟨(leq_buf rfl rfl rfl (by first | rfl | omega)), (leq_ptr rfl rfl rfl), (leq_is rfl rfl rfl), (leq_mrow rfl rfl rfl rfl), trivial⟩, ⟨hp_var rfl ⟨(leq_bfz rfl rfl rfl (by first | rfl | omega | exact congrArg (Value.int .i64) (by omega))), (leq_fn rfl rfl trivial trivial), trivial⟩, hp_arr rfl (by first | rfl | omega | exact congrArg (Value.int .i64) (by omega)), hp_bfe rfl (by first | rfl | omega | exact congrArg (Value.int .i64) (by omega)), trivial⟩, ⟨hp_buf rfl rfl, trivial⟩, rfl, ⟨supg rfl, trivial⟩, ⟨supg rfl, supg rfl, supg rfl, supg rfl, trivial⟩, ⟨suph rfl rfl, suph_arr rfl, suph rfl rfl, trivial⟩, ⟨suph rfl rfl, trivial⟩, rfl, rfl⟩ ?_
      intro r hI2
      refine W_seq ?_
      refine W_seq ?_
      refine W_regionE (c := 21) (c' := 24) (by kernel_rfl) rfl ?_
      refine Runs_p rfl (Valid.movek (A := Is _) rfl rfl) rfl rfl ?_
      refine Runs_p rfl (Valid.movek (A := Is _) rfl rfl) rfl rfl ?_
      refine Runs_p rfl (Valid.lss rfl rfl rfl) rfl rfl ?_
      refine Runs_nil ?_
      refine thenQ_n ?_
      refine W_cond _ rfl (fun hb2 => ?_) (fun hb2 => ?_)
      · try simp only [decide_eq_true_eq] at hb2
        all_goals (
          refine W_skip ?_
          refine thenQ_n ?_
          refine W_seq ?_
          refine W_block ?_
          refine W_seq ?_
          have hin := inv hw h2 r (by omega)
          have htw := two hin (by omega)
          obtain ⟨t1, t2, t3, t4, t5, t6, t7, _, _⟩ := htw
          simp only [gt] at t4 t5 t6
          have hwl := hin.wl
          have hil := hin.len
          have hr1 : (dnL (cut0 (jst w r).1) 0) = rest (jst w r).1 := rfl
          have hr2 : (dnL (cut0 (rest (jst w r).1)) 0) = rest (rest (jst w r).1) := rfl
          refine W_regionE (c := 24) (c' := 30) (by kernel_rfl) rfl ?_
          refine Runs_w rfl (Valid.callm [(1, 24), (2, 64)] rfl (.inl ⟨rfl, rfl⟩) (take_s (jst w r).1 (by omega) (by omega)) ⟨(leq_ptr rfl rfl rfl), trivial⟩ ⟨⟨_, rfl, .var ⟨(leq_bfz rfl rfl rfl (by first | rfl | omega)), (leq_fn rfl rfl trivial trivial), trivial⟩⟩, ⟨_, rfl, .bfe rfl⟩, trivial⟩ (up_pure rfl) (hpup_cons (j := 24) rfl (cup_var (allup_cons (up_bfz (id' := 194) rfl) (allup_cons (up_fn allup_nil allup_nil) allup_nil))) (hpup_cons (j := 194) rfl cup_bfe hpup_nil)) (by kernel_rfl) (by kernel_rfl) (by kernel_rfl) (by kernel_rfl) (by kernel_rfl) (by kernel_rfl) (by kernel_rfl) (by kernel_rfl) (by kernel_rfl)) rfl rfl ?_
          refine Runs_w rfl (Valid.callm [(1, 24), (2, 194)] rfl (.inl ⟨rfl, rfl⟩) (take_s (rest (jst w r).1) (by omega) (by omega)) ⟨(leq_ptr rfl rfl rfl), trivial⟩ ⟨⟨_, rfl, .var ⟨(leq_bfz rfl rfl rfl (by first | rfl | omega)), (leq_fn rfl rfl trivial trivial), trivial⟩⟩, ⟨_, rfl, .bfe rfl⟩, trivial⟩ (up_pure rfl) (hpup_cons (j := 24) rfl (cup_var (allup_cons (up_bfz (id' := 202) rfl) (allup_cons (up_fn allup_nil allup_nil) allup_nil))) (hpup_cons (j := 202) rfl cup_bfe hpup_nil)) (by kernel_rfl) (by kernel_rfl) (by kernel_rfl) (by kernel_rfl) (by kernel_rfl) (by kernel_rfl) (by kernel_rfl) (by kernel_rfl) (by kernel_rfl)) rfl rfl ?_
          refine Runs_w rfl (Valid.alloc [(Value.int .i64 0), (Value.int .i64 0)] rfl zv79 rfl) rfl rfl ?_
          refine Runs_w rfl (Valid.alloc [(Value.int .i64 0), (Value.int .i64 0)] rfl zv79 rfl) rfl rfl ?_
          refine Runs_op rfl (Valid.storeagg (l := [_, _]) rfl sz79 rfl rfl (Nat.le_of_ble_eq_true rfl) rfl ⟨(One.is rfl rfl rfl), (One.is rfl rfl rfl), trivial⟩) rfl ?_
          refine Runs_op rfl (Valid.storeagg (l := [_, _]) rfl sz79 rfl rfl (Nat.le_of_ble_eq_true rfl) rfl ⟨(One.is rfl rfl rfl), (One.is rfl rfl rfl), trivial⟩) rfl ?_
          refine Runs_nil ?_
          refine thenQ_n ?_
          refine W_seq ?_
          refine W_drawE (c := 30) (c' := 42) (by kernel_rfl) rfl ?_
          refine Runs_p rfl (Valid.movek (A := Mrow 128 _) rfl rfl) rfl rfl ?_
          refine Runs_p rfl (Valid.fieldaddr (off' := 1) rfl rfl (fun _ _ => by kernel_rfl)) rfl rfl ?_
          refine Runs_p rfl (Valid.load _ rfl ag3 rfl rfl rfl) rfl rfl ?_
          refine Runs_p rfl (Valid.movek (A := Mrow 128 _) rfl rfl) rfl rfl ?_
          refine Runs_p rfl (Valid.fieldaddr (off' := 1) rfl rfl (fun _ _ => by kernel_rfl)) rfl rfl ?_
          refine Runs_p rfl (Valid.load _ rfl ag3 rfl rfl rfl) rfl rfl ?_
          refine Runs_p rfl (Valid.movek (A := Is _) rfl rfl) rfl rfl ?_
          refine Runs_p rfl (Valid.movek (A := Is _) rfl rfl) rfl rfl ?_
          refine Runs_p rfl (Valid.idxM1 rfl Try.underlying22 sz3 rfl rfl (by omega)) rfl rfl ?_
          refine Runs_op rfl (Valid.storearr _ rfl sz3 rfl rfl (by first | omega | (rw [List.length_set]; omega)) rfl (One.is rfl rfl rfl)) rfl ?_
          refine Runs_p rfl (Valid.idxM1 rfl Try.underlying22 sz3 rfl rfl (by omega)) rfl rfl ?_
          refine Runs_op rfl (Valid.storearr _ rfl sz3 rfl rfl (by first | omega | (rw [List.length_set]; omega)) rfl (One.is rfl rfl rfl)) rfl ?_
          refine Runs_nil ?_
          refine ⟨_, _, rfl, rfl, by kernel_rfl, ?_⟩
          refine thenQ_n ?_
          refine W_regionE (c := 42) (c' := 50) (by kernel_rfl) rfl ?_
          refine Runs_p rfl (Valid.fieldaddr (off' := 0) rfl rfl (fun _ _ => by kernel_rfl)) rfl rfl ?_
          refine Runs_p rfl (Valid.load _ rfl ag3 rfl rfl rfl) rfl rfl ?_
          refine Runs_p rfl (Valid.fieldaddr (off' := 0) rfl rfl (fun _ _ => by kernel_rfl)) rfl rfl ?_
          refine Runs_p rfl (Valid.load _ rfl ag3 rfl rfl rfl) rfl rfl ?_
          refine Runs_p rfl (Valid.add rfl rfl rfl (room64 (by omega) (by omega))) rfl rfl ?_
          refine Runs_p rfl (Valid.movek (A := Is _) rfl rfl) rfl rfl ?_
          refine Runs_p rfl (Valid.struct [_, _] rfl rfl (fun _ => by kernel_rfl)) rfl rfl ?_
          refine Runs_w rfl (Valid.callm [(1, 24), (2, 202)] rfl (.inl ⟨rfl, rfl⟩) (put_s (rest (rest (jst w r).1)) ((gt (jst w r).1 0).1 + (gt (rest (jst w r).1) 0).1, ((w.length : Int) + (r : Int))) (by omega)) ⟨(leq_ptr rfl rfl rfl), (leq_agg rfl rfl ⟨(leq_is rfl rfl rfl), (leq_is rfl rfl rfl), trivial⟩), trivial⟩ ⟨⟨_, rfl, .var ⟨(leq_bfz rfl rfl rfl (by first | rfl | omega)), (leq_fn rfl rfl trivial trivial), trivial⟩⟩, ⟨_, rfl, .bfe rfl⟩, trivial⟩ (up_pure rfl) (hpup_cons (j := 24) rfl (cup_var (allup_cons (up_bfz (id' := 394) rfl) (allup_cons (up_fn allup_nil allup_nil) allup_nil))) (hpup_cons (j := 394) rfl cup_bfe hpup_nil)) (by kernel_rfl) (by kernel_rfl) (by kernel_rfl) (by kernel_rfl) (by kernel_rfl) (by kernel_rfl) (by kernel_rfl) (by kernel_rfl) (by kernel_rfl)) rfl rfl ?_
          refine Runs_nil ?_
          refine blockQ_n ?_
          refine thenQ_n ?_
          refine W_regionE (c := 50) (c' := 53) (by kernel_rfl) rfl ?_
          refine Runs_p rfl (Valid.movek (A := Is _) rfl rfl) rfl rfl ?_
          refine Runs_p rfl (Valid.add rfl rfl rfl (room64 (by omega) (by omega))) rfl rfl ?_
          refine Runs_p rfl (Valid.assignk (A := Is _) rfl rfl) rfl rfl ?_
          refine Runs_nil ?_
          refine LoopQ.next (r + 1) [(64, 394)] (by omega) (by omega) ⟨⟨(leq_is rfl rfl (by first | rfl | omega | exact congrArg (Value.int .i64) (by omega))), trivial⟩, ⟨(leq_buf rfl rfl rfl (by first | rfl | omega)), (leq_ptr rfl rfl rfl), (leq_is rfl rfl rfl), (leq_mrow rfl rfl rfl rfl), trivial⟩, ⟨hp_var rfl ⟨(leq_bfz rfl rfl rfl (by first | rfl | omega | exact congrArg (Value.int .i64) (by omega))), (leq_fn rfl rfl trivial trivial), trivial⟩, hp_arr rfl (by first | rfl | omega | exact congrArg (Value.int .i64) (by omega)), hp_bfe rfl (by first | rfl | omega | exact congrArg (Value.int .i64) (by omega)), trivial⟩, ⟨hp_buf rfl rfl, trivial⟩, rfl, ⟨supg rfl, trivial⟩, ⟨supg rfl, supg rfl, supg rfl, supg rfl, trivial⟩, ⟨suph rfl rfl, suph_arr rfl, suph rfl rfl, trivial⟩, ⟨suph rfl rfl, trivial⟩, rfl, rfl⟩
          done)
      · try simp only [decide_eq_false_iff_not] at hb2
        all_goals (
          refine W_exit ?_
          refine thenQ_e ?_
          refine loopQ_e ?_
          refine blockQ_x ?_
          refine thenQ_n ?_
          refine W_seq ?_
          obtain rfl : r = w.length - 1 := by omega
          have hin := inv hw h2 (w.length - 1) (by omega)
          have hwl := hin.wl
          have hwi := hin.wi
          refine W_regionE (c := 24) (c' := 27) (by kernel_rfl) rfl ?_
          refine Runs_p rfl (Valid.movek (A := Is _) rfl rfl) rfl rfl ?_
          refine Runs_w rfl (Valid.makevar (Value.int .i64) 0 rfl Try.underlying22 tzv3 rfl rfl rfl (by omega) (by omega) (by omega)) rfl rfl ?_
          refine Runs_p rfl (Valid.assignk (A := Mrow 200 _) rfl rfl) rfl rfl ?_
          refine Runs_nil ?_
          refine thenQ_n ?_
          refine W_seq ?_
          refine W_seq ?_
          refine W_regionE (c := 27) (c' := 30) (by kernel_rfl) rfl ?_
          refine Runs_p rfl (Valid.movek (A := Is _) rfl rfl) rfl rfl ?_
          refine Runs_p rfl (Valid.sub rfl rfl rfl (room64 (by omega) (by omega))) rfl rfl ?_
          refine Runs_p rfl (Valid.assignk (A := Is _) rfl rfl) rfl rfl ?_
          refine Runs_nil ?_
          refine thenQ_n ?_
          refine W_block ?_
          refine W_loopx (G := Nat) (fun (j : Nat) => j + 1 ≤ 2 * w.length - 1) [(0, Buf 1 _), (7, Mrow 128 _), (11, Mrow 200 _)] (fun (j : Nat) => [(12, Is (.int .i64 (((2 * w.length - 1 : Nat) : Int) - 2 - (j : Int))))]) [(1, .buf 3 _), (128, .var 3 (Arr (Value.int .i64) _))] (fun (j : Nat) => [(200, .var 3 (Arr (Value.int .i64) (dpt (jst w (w.length - 1)).2 (2 * w.length - 1) j)))]) 30 (fun (j : Nat) => 2 * w.length - 1 - j) (0) [] (by omega) ⟨⟨(leq_is rfl rfl (by first | rfl | omega | exact congrArg (Value.int .i64) (by omega))), trivial⟩, ⟨(leq_buf rfl rfl rfl (by first | rfl | omega)), (leq_mrow rfl rfl rfl rfl), (leq_mrow rfl rfl rfl rfl), trivial⟩, ⟨hp_arr rfl (by first | rfl | omega | exact congrArg (Value.int .i64) (by omega)), trivial⟩, ⟨hp_buf rfl rfl, hp_arr rfl rfl, trivial⟩, rfl, ⟨supg rfl, trivial⟩, ⟨supg rfl, supg rfl, supg rfl, trivial⟩, ⟨suph_arr rfl, trivial⟩, ⟨suph rfl rfl, suph_arr rfl, trivial⟩, rfl, rfl⟩ ?_
          intro j hI3
          have hdl := dpt_len (jst w (w.length - 1)).2 (2 * w.length - 1) j
          have hdb := dpt_bd (jst w (w.length - 1)).2 (2 * w.length - 1) j
          refine W_seq ?_
          refine W_seq ?_
          refine W_regionE (c := 30) (c' := 32) (by kernel_rfl) rfl ?_
          refine Runs_p rfl (Valid.movek (A := Is _) rfl rfl) rfl rfl ?_
          refine Runs_p rfl (Valid.geq rfl rfl rfl) rfl rfl ?_
          refine Runs_nil ?_
          refine thenQ_n ?_
          refine W_cond _ rfl (fun hb3 => ?_) (fun hb3 => ?_)
          · try simp only [decide_eq_true_eq] at hb3
            all_goals (
              refine W_skip ?_
              refine thenQ_n ?_
              refine W_seq ?_
              refine W_block ?_
              have ej : (((2 * w.length - 1 : Nat) : Int) - 2 - (j : Int)).toNat = 2 * w.length - 1 - 2 - j := by omega
              have hwj := get_bd hwi (i := (((2 * w.length - 1 : Nat) : Int) - 2 - (j : Int)).toNat) (by omega)
              have hdj := get_bd2 hdb (i := ((jst w (w.length - 1)).2.getD (((2 * w.length - 1 : Nat) : Int) - 2 - (j : Int)).toNat 0).toNat) (by omega)
              refine W_regionE (c := 32) (c' := 44) (by kernel_rfl) rfl ?_
              refine Runs_p rfl (Valid.movek (A := Mrow 200 _) rfl rfl) rfl rfl ?_
              refine Runs_p rfl (Valid.movek (A := Is _) rfl rfl) rfl rfl ?_
              refine Runs_p rfl (Valid.movek (A := Mrow 200 _) rfl rfl) rfl rfl ?_
              refine Runs_p rfl (Valid.movek (A := Mrow 128 _) rfl rfl) rfl rfl ?_
              refine Runs_p rfl (Valid.movek (A := Is _) rfl rfl) rfl rfl ?_
              refine Runs_p rfl (Valid.idxM1 rfl Try.underlying22 sz3 rfl rfl (by omega)) rfl rfl ?_
              refine Runs_p rfl (Valid.loadarr 0 rfl ag3 rfl rfl (by omega)) rfl rfl ?_
              refine Runs_p rfl (Valid.idxM1 rfl Try.underlying22 sz3 rfl rfl (by omega)) rfl rfl ?_
              refine Runs_p rfl (Valid.loadarr 0 rfl ag3 rfl rfl (by omega)) rfl rfl ?_
              refine Runs_p rfl (Valid.add rfl rfl rfl (room64 (by omega) (by omega))) rfl rfl ?_
              refine Runs_p rfl (Valid.idxM1 rfl Try.underlying22 sz3 rfl rfl (by omega)) rfl rfl ?_
              refine Runs_op rfl (Valid.storearr _ rfl sz3 rfl rfl (by omega) rfl (One.is rfl rfl rfl)) rfl ?_
              refine Runs_nil ?_
              refine blockQ_n ?_
              refine thenQ_n ?_
              refine W_regionE (c := 44) (c' := 47) (by kernel_rfl) rfl ?_
              refine Runs_p rfl (Valid.movek (A := Is _) rfl rfl) rfl rfl ?_
              refine Runs_p rfl (Valid.sub rfl rfl rfl (room64 (by omega) (by omega))) rfl rfl ?_
              refine Runs_p rfl (Valid.assignk (A := Is _) rfl rfl) rfl rfl ?_
              refine Runs_nil ?_
              refine LoopQ.next (j + 1) [] (by omega) (by omega) ⟨⟨(leq_is rfl rfl (by first | rfl | omega | (rw [ej]; rfl) | exact congrArg (Value.int .i64) (by omega))), trivial⟩, ⟨(leq_buf rfl rfl rfl (by first | rfl | omega)), (leq_mrow rfl rfl rfl rfl), (leq_mrow rfl rfl rfl rfl), trivial⟩, ⟨hp_arr rfl (by first | rfl | omega | (rw [ej]; rfl) | exact congrArg (Value.int .i64) (by omega)), trivial⟩, ⟨hp_buf rfl rfl, hp_arr rfl rfl, trivial⟩, rfl, ⟨supg rfl, trivial⟩, ⟨supg rfl, supg rfl, supg rfl, trivial⟩, ⟨suph_arr rfl, trivial⟩, ⟨suph rfl rfl, suph_arr rfl, trivial⟩, rfl, rfl⟩
              done)
          · try simp only [decide_eq_false_iff_not] at hb3
            all_goals (
              refine W_exit ?_
              refine thenQ_e ?_
              refine loopQ_e ?_
              refine blockQ_x ?_
              refine thenQ_n ?_
              refine W_seq ?_
              refine W.ent ?_ (Ent.freeze 11 200 _ rfl rfl (by rw [List.length_map, dpt_len]; omega) (by simp only [maxLen]; omega))
              refine W_regionE (c := 32) (c' := 37) (by kernel_rfl) rfl ?_
              refine Runs_p rfl (Valid.movek (A := Sl 1 _ _) rfl rfl) rfl rfl ?_
              refine Runs_p rfl (Valid.movek (A := Buf 1 _) rfl rfl) rfl rfl ?_
              refine Runs_p rfl (Valid.lenB rfl Try.underlying22 rfl) rfl rfl ?_
              refine Runs_p rfl (Valid.sliceto1 rfl Try.underlying22 sz3 (Reads.sl rfl) rfl (by omega)) rfl rfl ?_
              refine Runs_p rfl (Valid.assignk (A := Sl 1 _ _) rfl rfl) rfl rfl ?_
              refine Runs_nil ?_
              refine thenQ_n ?_
              refine W_ret ?_
              refine finMQ_r ?_
              exact FinM.of [] (ResOk.one rfl (RVal.sl (Reads.sl rfl) rfl (by first | rfl | omega | (unfold joinV; rw [show 2 * w.length - 2 = j by omega]; simp [List.map_take]; done)) (by first | rfl | omega | (unfold joinV; rw [show 2 * w.length - 2 = j by omega]; simp [List.map_take]; done)))) rfl ⟨hp_buf rfl (by first | rfl | (simp; done) | omega | (simp [toNat_add, toNat_add1, Nat.add_assoc]; done) | (simp [toNat_add, toNat_add1]; omega)), trivial⟩ rfl rfl
              done)
          done)
      done)
end Wc
end Go.Proofs.Ytdcenocljnlipaa
