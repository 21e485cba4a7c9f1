/-
  MATHS of stage 10: the row of trees of the document's own answer tells the same.
-/
import Derived.Test.YtdcenocljnlipaaWg
namespace Go.Proofs.Ytdcenocljnlipaa
open Go.RowKit
namespace Wk
open Ab Wa Wb Wm Wc We Wf Wg Of
/-- a tree: its weight, and what it has -/
abbrev Tg := Int × List Int
/-- the place of the least, the first one of several -/
def lstA (l : List Tg) : Nat → Nat
  | 0 => 0
  | 1 => 0
  | i + 2 => if (l.getD (i + 1) (0, [])).1 < (l.getD (lstA l (i + 1)) (0, [])).1 then i + 1 else lstA l (i + 1)
def lst (l : List Tg) : Nat := lstA l l.length
theorem lstA_s (l : List Tg) {i : Nat} (h : 1 ≤ i) : lstA l (i + 1) = if (l.getD i (0, [])).1 < (l.getD (lstA l i) (0, [])).1 then i else lstA l i := by
  obtain ⟨j, rfl⟩ : ∃ j, i = j + 1 := ⟨i - 1, by omega⟩
  rfl
theorem lstA_lt (l : List Tg) : ∀ i, 1 ≤ i → lstA l i < i
  | 0, h => by omega
  | 1, _ => Nat.zero_lt_one
  | i + 2, _ => by
    have ih := lstA_lt l (i + 1) (by omega)
    rw [lstA_s l (by omega)]
    split <;> omega
theorem lstA_le (l : List Tg) : ∀ i, 1 ≤ i → ∀ j, j < i → (l.getD (lstA l i) (0, [])).1 ≤ (l.getD j (0, [])).1 ∧ (j < lstA l i → (l.getD (lstA l i) (0, [])).1 < (l.getD j (0, [])).1)
  | 0, h, _, _ => by omega
  | 1, _, j, hj => by
    have : j = 0 := by omega
    subst this
    exact ⟨Int.le_refl _, fun h => absurd h (Nat.lt_irrefl 0)⟩
  | i + 2, _, j, hj => by
    have ih := lstA_le l (i + 1) (by omega)
    have hlt := lstA_lt l (i + 1) (by omega)
    rw [lstA_s l (by omega)]
    by_cases c : (l.getD (i + 1) (0, [])).1 < (l.getD (lstA l (i + 1)) (0, [])).1
    · rw [if_pos c]
      by_cases e : j = i + 1
      · subst e; exact ⟨Int.le_refl _, fun h => by omega⟩
      · have := (ih j (by omega)).1
        exact ⟨by omega, fun _ => by omega⟩
    · rw [if_neg c]
      by_cases e : j = i + 1
      · subst e; exact ⟨by omega, fun h => by omega⟩
      · exact ih j (by omega)
def wo {α : Type} (l : List α) (i : Nat) : List α := l.take i ++ l.drop (i + 1)
theorem wo_perm {α : Type} {l : List α} {i : Nat} (h : i < l.length) : (l[i] :: wo l i).Perm l := by
  have : l = l.take i ++ l[i] :: l.drop (i + 1) := by rw [← List.drop_eq_getElem_cons h, List.take_append_drop]
  conv => rhs; rw [this]
  exact List.perm_middle.symm
theorem wo_len {α : Type} {l : List α} {i : Nat} (h : i < l.length) : (wo l i).length = l.length - 1 := by
  have := (wo_perm h).length_eq
  rw [List.length_cons] at this; omega
theorem wo_sub {α : Type} (l : List α) (i : Nat) : (wo l i).Sublist l := by
  have h1 : (l.drop (i + 1)).Sublist (l.drop i) := by rw [← List.drop_drop]; exact List.drop_sublist _ _
  have := (List.Sublist.refl (l.take i)).append h1
  rwa [List.take_append_drop] at this
/-- with its place, as well -/
abbrev T2 := Tr × List Int
def fr (l : List T2) : List Tg := l.map (fun e => (e.1.1, e.2))
theorem fr_len (l : List T2) : (fr l).length = l.length := List.length_map _
theorem fr_at {l : List T2} {i : Nat} (h : i < l.length) : (fr l).getD i (0, []) = (l[i].1.1, l[i].2) := by
  unfold fr
  rw [List.getD_eq_getElem?_getD, List.getElem?_map, List.getElem?_eq_getElem h]; rfl
theorem fr_wo (l : List T2) (i : Nat) : fr (wo l i) = wo (fr l) i := by
  unfold fr wo
  rw [List.map_append, List.map_take, List.map_drop]
def Inc (l : List T2) : Prop := l.Pairwise (fun a b => a.1.2 < b.1.2)
theorem lst_lt {l : List Tg} (h : 1 ≤ l.length) : lst l < l.length := lstA_lt l _ h
theorem lst_least {l : List T2} (hi : Inc l) (h : 1 ≤ l.length) (hlt : lst (fr l) < l.length) : ∀ e ∈ l, le (l[lst (fr l)]).1 e.1 := by
  intro e he
  obtain ⟨j, hj, rfl⟩ := List.mem_iff_getElem.1 he
  have hl := fr_len l
  have := lstA_le (fr l) (fr l).length (by omega) j (by omega)
  rw [show lstA (fr l) (fr l).length = lst (fr l) from rfl, fr_at hlt, fr_at hj] at this
  simp only at this
  by_cases c : (l[lst (fr l)]).1.1 < (l[j]).1.1
  · exact .inl c
  · have heq : (l[lst (fr l)]).1.1 = (l[j]).1.1 := by have := this.1; omega
    refine .inr ⟨heq, ?_⟩
    have hge : lst (fr l) ≤ j := by
      refine Classical.byContradiction fun hn => ?_
      have := this.2 (by show j < lst (fr l); omega)
      omega
    rcases Nat.lt_or_eq_of_le hge with h1 | h1
    · have := List.pairwise_iff_getElem.1 hi _ _ hlt hj h1
      omega
    · have : l[lst (fr l)] = l[j] := by congr 1
      rw [this]; exact Int.le_refl _
/-- each one of them one more -/
def incA (d : List Int) (all : List Int) : Nat → List Int
  | 0 => d
  | j + 1 => (incA d all j).set (all.getD j 0).toNat ((incA d all j).getD (all.getD j 0).toNat 0 + 1)
theorem incA_len (d all : List Int) : ∀ j, (incA d all j).length = d.length
  | 0 => rfl
  | j + 1 => by rw [incA, List.length_set, incA_len d all j]
theorem incA_at {d all : List Int} (hb : ∀ x ∈ all, 0 ≤ x ∧ x < d.length) (hnd : all.Nodup) {p : Nat} (hp : p < d.length) : ∀ j, j ≤ all.length → (incA d all j).getD p 0 = d.getD p 0 + if (p : Int) ∈ all.take j then 1 else 0
  | 0, _ => by simp [incA]
  | j + 1, hj => by
    have ih := incA_at hb hnd hp j (by omega)
    have hjm : all.getD j 0 ∈ all := getD_mem' (by omega)
    have hjb := hb _ hjm
    have hget : all.getD j 0 = all[j] := by rw [List.getD_eq_getElem?_getD, List.getElem?_eq_getElem (by omega)]; rfl
    have htk : all.take (j + 1) = all.take j ++ [all.getD j 0] := by rw [List.take_succ_eq_append_getElem (by omega), hget]
    have hnin : all.getD j 0 ∉ all.take j := by
      intro h
      have h2 : (all.take (j + 1)).Nodup := hnd.sublist (List.take_sublist _ _)
      rw [htk] at h2
      have := (List.nodup_append.1 h2).2.2 _ h (all.getD j 0) (by simp only [List.mem_singleton])
      exact this rfl
    rw [incA, gd_set' (by rw [incA_len]; omega), htk]
    by_cases e : p = (all.getD j 0).toNat
    · rw [if_pos e, ← e, ih, if_neg (by rw [show (p : Int) = all.getD j 0 by omega]; exact hnin), if_pos (by rw [show (p : Int) = all.getD j 0 by omega]; simp only [List.mem_append, List.mem_singleton, or_true]), Int.add_zero]
    · rw [if_neg e, ih]
      have hne : ¬ (p : Int) = all.getD j 0 := by omega
      by_cases c : (p : Int) ∈ all.take j
      · rw [if_pos c, if_pos (by simp [c])]
      · rw [if_neg c, if_neg (by simp only [List.mem_append, List.mem_singleton]; rintro (h | h); exact c h; exact hne h)]
theorem incA_bd {d all : List Int} {b : Int} (hd : ∀ x ∈ d, 0 ≤ x ∧ x ≤ b) : ∀ j, ∀ x ∈ incA d all j, 0 ≤ x ∧ x ≤ b + j
  | 0, x, hx => by have := hd x hx; omega
  | j + 1, x, hx => by
    rw [incA] at hx
    have ih := incA_bd hd j (all := all)
    rcases List.mem_or_eq_of_mem_set hx with h | h
    · have := ih x h; omega
    · by_cases c : (all.getD j 0).toNat < (incA d all j).length
      · have := ih _ (getD_mem' c); omega
      · rw [List.getD_eq_getElem?_getD, List.getElem?_eq_none (by omega)] at h
        have hb : 0 ≤ b + (j : Int) := by
          by_cases e : (incA d all j).length = 0
          · rw [List.length_eq_zero_iff.1 e] at hx; cases hx
          · have := ih _ (getD_mem' (w := incA d all j) (i := 0) (by omega)); omega
        simp at h; omega
/-- round by round: the trees with their places, how deep all are so far -/
def ag (w : List Int) : Nat → List T2 × List Int
  | 0 => ((List.range w.length).map (fun i : Nat => ((w.getD i 0, (i : Int)), [(i : Int)])), List.replicate w.length 0)
  | r + 1 =>
    let l := (ag w r).1
    let a := l.getD (lst (fr l)) ((0, 0), [])
    let l1 := wo l (lst (fr l))
    let b := l1.getD (lst (fr l1)) ((0, 0), [])
    (wo l1 (lst (fr l1)) ++ [((a.1.1 + b.1.1, (w.length : Int) + (r : Int)), a.2 ++ b.2)], incA (ag w r).2 (a.2 ++ b.2) (a.2 ++ b.2).length)
structure AgI (w : List Int) (r : Nat) : Prop where
  perm : ((ag w r).1.map Prod.fst).Perm (S w r)
  inc : Inc (ag w r).1
  has : ((ag w r).1.flatMap Prod.snd).Perm ((List.range w.length).map (fun i : Nat => (i : Int)))
  len : (ag w r).2.length = w.length
  bd : ∀ x ∈ (ag w r).2, 0 ≤ x ∧ x ≤ 1000 * (r : Int)
  dp : ∀ e ∈ (ag w r).1, ∀ p ∈ e.2, (ag w r).2.getD p.toNat 0 + (D (S w r) ((w.length : Int) + (r : Int)) e.1.2 : Int) = (Dw w p.toNat : Int)
theorem flat_perm {l m : List T2} (h : l.Perm m) : (l.flatMap Prod.snd).Perm (m.flatMap Prod.snd) := h.flatMap_right _
theorem r0_range (w : List Int) : ∀ k, r0 w k = (List.range k).map (fun i : Nat => (w.getD i 0, (i : Int)))
  | 0 => rfl
  | k + 1 => by rw [r0, r0_range w k, List.range_succ, List.map_append]; rfl
theorem getD_el {l : List T2} {i : Nat} (h : i < l.length) : l.getD i ((0, 0), []) = l[i] := by
  rw [List.getD_eq_getElem?_getD, List.getElem?_eq_getElem h]; rfl
/-- what a round takes out, and what is left -/
structure Out (w : List Int) (r : Nat) (l1 l2 : List T2) (a b : T2) (t : List Tr) : Prop where
  i1 : lst (fr (ag w r).1) < (ag w r).1.length
  ea : (ag w r).1.getD (lst (fr (ag w r).1)) ((0, 0), []) = a
  e1 : wo (ag w r).1 (lst (fr (ag w r).1)) = l1
  i2 : lst (fr l1) < l1.length
  eb : l1.getD (lst (fr l1)) ((0, 0), []) = b
  e2 : wo l1 (lst (fr l1)) = l2
  p : (a :: b :: l2).Perm (ag w r).1
  st : S w r = a.1 :: b.1 :: t
  pt : (l2.map Prod.fst).Perm t
  inc : Inc l2
theorem least_is {l : List Tr} {x a : Tr} {t : List Tr} (hp : l.Perm (a :: t)) (hs : (a :: t).Pairwise le) (hx : x ∈ l) (hle : ∀ y ∈ l, le x y) : x = a := by
  have ha : a ∈ l := hp.mem_iff.2 (by simp)
  refine le_anti (hle a ha) ?_
  rcases List.mem_cons.1 (hp.mem_iff.1 hx) with e | e
  · rw [e]; exact le_refl _
  · exact (List.pairwise_cons.1 hs).1 x e
theorem AgI.two {w : List Int} (hw : Nn w) {r : Nat} (hr : r + 2 ≤ w.length) (h : AgI w r) : ∃ l1 l2 a b t, Out w r l1 l2 a b t := by
  obtain ⟨hrow, hlen⟩ := S_row hw r (by omega)
  obtain ⟨a0, b0, t, est⟩ := two_of (show 2 ≤ (S w r).length by omega)
  have hp := h.perm
  rw [est] at hp hrow
  have hL : (ag w r).1.length = w.length - r := by have := h.perm.length_eq; rw [List.length_map] at this; omega
  have i1 : lst (fr (ag w r).1) < (ag w r).1.length := by have := lst_lt (l := fr (ag w r).1) (by rw [fr_len]; omega); rwa [fr_len] at this
  have ls := lst_least h.inc (by omega) i1
  have p1 := wo_perm i1
  have ea := getD_el i1
  have inc1 : Inc (wo (ag w r).1 (lst (fr (ag w r).1))) := h.inc.sublist (wo_sub _ _)
  have len1 := wo_len i1
  generalize hl1 : wo (ag w r).1 (lst (fr (ag w r).1)) = l1 at *
  generalize hae : (ag w r).1[lst (fr (ag w r).1)] = a at *
  have haa : a.1 = a0 := least_is hp hrow.s (List.mem_map_of_mem (p1.mem_iff.1 (by simp))) (fun y hy => by
    obtain ⟨e, he, rfl⟩ := List.mem_map.1 hy
    exact ls e he)
  have hp1 : (l1.map Prod.fst).Perm (b0 :: t) := by
    have := (p1.map Prod.fst).trans hp
    rw [List.map_cons, haa] at this
    exact List.Perm.cons_inv this
  have i2 : lst (fr l1) < l1.length := by have := lst_lt (l := fr l1) (by rw [fr_len]; omega); rwa [fr_len] at this
  have ls2 := lst_least inc1 (by omega) i2
  have p2 := wo_perm i2
  have eb := getD_el i2
  have inc2 : Inc (wo l1 (lst (fr l1))) := inc1.sublist (wo_sub _ _)
  generalize hl2 : wo l1 (lst (fr l1)) = l2 at *
  generalize hbe : l1[lst (fr l1)] = b at *
  have hbb : b.1 = b0 := least_is hp1 (List.pairwise_cons.1 hrow.s).2 (List.mem_map_of_mem (p2.mem_iff.1 (by simp))) (fun y hy => by
    obtain ⟨e, he, rfl⟩ := List.mem_map.1 hy
    exact ls2 e he)
  refine ⟨l1, l2, a, b, t, i1, ea, hl1, i2, eb, hl2, (p2.cons a).trans p1, by rw [est, haa, hbb], ?_, inc2⟩
  have := (p2.map Prod.fst).trans hp1
  rw [List.map_cons, hbb] at this
  exact List.Perm.cons_inv this
theorem ag_s {w : List Int} {r : Nat} {l1 l2 : List T2} {a b : T2} {t : List Tr} (o : Out w r l1 l2 a b t) : ag w (r + 1) = (l2 ++ [((a.1.1 + b.1.1, (w.length : Int) + (r : Int)), a.2 ++ b.2)], incA (ag w r).2 (a.2 ++ b.2) (a.2 ++ b.2).length) := by
  rw [ag]
  simp only [o.ea, o.e1, o.eb, o.e2]
theorem all_ok {w : List Int} {r : Nat} (h : AgI w r) {l1 l2 : List T2} {a b : T2} {t : List Tr} (o : Out w r l1 l2 a b t) :
    ((a.2 ++ b.2) ++ l2.flatMap Prod.snd).Perm ((List.range w.length).map (fun i : Nat => (i : Int))) ∧ (a.2 ++ b.2).Nodup ∧ (∀ x ∈ a.2 ++ b.2, 0 ≤ x ∧ x < w.length) ∧ (a.2 ++ b.2).length ≤ w.length ∧ ∀ e ∈ l2, ∀ p ∈ e.2, 0 ≤ p ∧ p < w.length ∧ p ∉ a.2 ++ b.2 := by
  have hp := (flat_perm o.p).trans h.has
  rw [List.flatMap_cons, List.flatMap_cons, ← List.append_assoc] at hp
  have hnd : ((List.range w.length).map (fun i : Nat => (i : Int))).Nodup := List.pairwise_map.2 (List.nodup_range.imp (fun {a b} h e => h (by omega)))
  have hnd2 := hp.nodup_iff.2 hnd
  have hrg : ∀ x ∈ (a.2 ++ b.2) ++ l2.flatMap Prod.snd, 0 ≤ x ∧ x < w.length := fun x hx => by
    obtain ⟨i, hi, rfl⟩ := List.mem_map.1 (hp.mem_iff.1 hx)
    have := List.mem_range.1 hi
    omega
  obtain ⟨n1, _, n3⟩ := List.nodup_append.1 hnd2
  refine ⟨hp, n1, fun x hx => hrg x (List.mem_append_left _ hx), ?_, fun e he p hpp => ?_⟩
  · have := hp.length_eq
    rw [List.length_append, List.length_map, List.length_range] at this; omega
  · have hm : p ∈ l2.flatMap Prod.snd := List.mem_flatMap.2 ⟨e, he, hpp⟩
    have := hrg p (List.mem_append_right _ hm)
    exact ⟨this.1, this.2, fun h => n3 p h p hm rfl⟩
theorem agI {w : List Int} (hw : Nn w) (h2 : 2 ≤ w.length) (hl : w.length ≤ 300) : ∀ r, r + 1 ≤ w.length → AgI w r
  | 0, _ => by
    have e0 : (ag w 0).1.map Prod.fst = r0 w w.length := by rw [r0_range, ag, List.map_map]; rfl
    refine ⟨?_, ?_, ?_, by rw [ag, List.length_replicate], fun x hx => by rw [ag] at hx; rw [List.eq_of_mem_replicate hx]; simp, fun e he p hp => ?_⟩
    · rw [e0]; exact (srt_perm _).symm
    · rw [ag]
      refine List.pairwise_map.2 ?_
      exact List.pairwise_lt_range.imp (fun {a b} h => by simp only; omega)
    · rw [ag]
      have : ∀ l : List Nat, (l.map (fun i : Nat => (((w.getD i 0, (i : Int)), [(i : Int)]) : T2))).flatMap Prod.snd = l.map (fun i : Nat => (i : Int)) := fun l => by
        induction l with
        | nil => rfl
        | cons x l ih => rw [List.map_cons, List.flatMap_cons, ih]; rfl
      rw [this]
    · rw [ag] at he
      obtain ⟨i, hi, rfl⟩ := List.mem_map.1 he
      have hp : p = (i : Int) := by simpa using hp
      subst hp
      have h0 : (ag w 0).2.getD i 0 = 0 := by
        rw [ag, List.getD_eq_getElem?_getD, List.getElem?_replicate]; split <;> rfl
      rw [Int.toNat_natCast, h0, Dw]
      rw [show ((w.length : Int) + ((0 : Nat) : Int)) = (w.length : Int) by omega]
      simp only; omega
  | r + 1, hr => by
    have h := agI hw h2 hl r (by omega)
    obtain ⟨l1, l2, a, b, t, o⟩ := h.two hw (by omega)
    obtain ⟨hrow, hlen⟩ := S_row hw r (by omega)
    obtain ⟨q1, q2, q3, q4, q5⟩ := all_ok h o
    have es := ag_s o
    have est := o.st
    rw [est] at hrow
    have eS := S_two est
    have hdl := h.len
    have hpe : ∀ e ∈ (ag w r).1, e.1.2 < (w.length : Int) + (r : Int) := fun e he => by
      have := h.perm.mem_iff.1 (List.mem_map_of_mem (f := Prod.fst) he)
      rw [est] at this
      exact hrow.n _ this
    have hgd : ∀ p : Int, 0 ≤ p ∧ p < w.length → (ag w (r + 1)).2.getD p.toNat 0 = (ag w r).2.getD p.toNat 0 + if p ∈ a.2 ++ b.2 then 1 else 0 := fun p hp => by
      rw [es]
      have := incA_at (d := (ag w r).2) (all := a.2 ++ b.2) (fun x hx => by rw [hdl]; exact q3 x hx) q2 (p := p.toNat) (by omega) _ (Nat.le_refl _)
      rw [List.take_length, show ((p.toNat : Nat) : Int) = p by omega] at this
      exact this
    refine ⟨?_, ?_, ?_, by rw [es, incA_len]; exact hdl, ?_, ?_⟩
    · rw [es, eS, List.map_append]
      exact ((o.pt.append_right _).trans List.perm_append_comm).trans (ins_perm id _ t).symm
    · rw [es]
      refine List.pairwise_append.2 ⟨o.inc, List.pairwise_singleton _ _, fun x hx y hy => ?_⟩
      simp at hy
      rw [hy]
      exact hpe x (o.p.mem_iff.1 (by simp [hx]))
    · rw [es, List.flatMap_append]
      have e1 : [(((a.1.1 + b.1.1, (w.length : Int) + (r : Int)), a.2 ++ b.2) : T2)].flatMap Prod.snd = a.2 ++ b.2 := by simp
      rw [e1]
      exact List.perm_append_comm.trans q1
    · rw [es]
      intro x hx
      have := incA_bd h.bd _ x hx
      have h9 : (((a.2 ++ b.2).length : Nat) : Int) ≤ 300 := by omega
      omega
    · intro e he p hp
      rw [eS, show ((w.length : Int) + ((r + 1 : Nat) : Int)) = (w.length : Int) + (r : Int) + 1 by omega]
      rw [es] at he
      have hdp := h.dp
      rw [est] at hdp
      rcases List.mem_append.1 he with h1 | h1
      · obtain ⟨p0, p1, p2⟩ := q5 e h1 p hp
        have hm : e ∈ (ag w r).1 := o.p.mem_iff.1 (by simp [h1])
        have hmt : e.1 ∈ t := o.pt.mem_iff.1 (List.mem_map_of_mem h1)
        have := hdp e hm p hp
        rw [hrow.Dl hmt] at this
        rw [hgd p ⟨p0, p1⟩, if_neg p2, Int.add_zero]
        exact this
      · have e1 : e = ((a.1.1 + b.1.1, (w.length : Int) + (r : Int)), a.2 ++ b.2) := by simpa using h1
        rw [e1] at hp ⊢
        have hpr := q3 p hp
        rw [hgd p hpr, if_pos hp]
        rcases List.mem_append.1 hp with h3 | h3
        · have := hdp a (o.p.mem_iff.1 (by simp)) p h3
          rw [Row.Da] at this
          simp only
          omega
        · have := hdp b (o.p.mem_iff.1 (by simp)) p h3
          rw [Row.Db] at this
          simp only
          omega
theorem ag_end {w : List Int} (hw : Nn w) (h2 : 2 ≤ w.length) (hl : w.length ≤ 300) : (ag w (w.length - 1)).2 = joinV w := by
  have h := agI hw h2 hl (w.length - 1) (by omega)
  obtain ⟨_, hlen⟩ := S_row hw (w.length - 1) (by omega)
  have hjl := joinV_len (w := w) h2
  have hal := h.len
  have hL : (ag w (w.length - 1)).1.length = 1 := by have := h.perm.length_eq; rw [List.length_map] at this; omega
  apply List.ext_getElem (by omega)
  intro i h3 h4
  have hi : i < w.length := by omega
  have hj := joinV_at hw h2 hi
  have hm : (i : Int) ∈ (ag w (w.length - 1)).1.flatMap Prod.snd := h.has.mem_iff.2 (List.mem_map.2 ⟨i, List.mem_range.2 hi, rfl⟩)
  obtain ⟨e, he, hp⟩ := List.mem_flatMap.1 hm
  have hd := h.dp e he _ hp
  have hS : (S w (w.length - 1)).length = 1 := by omega
  obtain ⟨x, hx⟩ := List.length_eq_one_iff.1 hS
  rw [hx, D_one, Int.toNat_natCast] at hd
  rw [List.getD_eq_getElem?_getD, List.getElem?_eq_getElem h4] at hj
  rw [List.getD_eq_getElem?_getD, List.getElem?_eq_getElem h3] at hd
  simp only [Option.getD_some] at hj hd
  omega
end Wk
end Go.Proofs.Ytdcenocljnlipaa
