/-
  MATHS of stage 10: what the heap's rounds tell is what a row in order tells.
-/
import Derived.Test.YtdcenocljnlipaaWe
namespace Go.Proofs.Ytdcenocljnlipaa
open Go.RowKit
namespace Wf
open Ab Wa Wb Wm Wc We
/-- the weights, by their places -/
def r0 (w : List Int) : Nat → List Tr
  | 0 => []
  | k + 1 => r0 w k ++ [(w.getD k 0, (k : Int))]
theorem r0_len (w : List Int) : ∀ k, (r0 w k).length = k
  | 0 => rfl
  | k + 1 => by rw [r0, List.length_append, r0_len w k]; rfl
theorem r0_mem (w : List Int) : ∀ k (p : Tr), p ∈ r0 w k ↔ ∃ i, i < k ∧ p = (w.getD i 0, (i : Int))
  | 0, p => by simp [r0]
  | k + 1, p => by
    rw [r0, List.mem_append, r0_mem w k p]
    constructor
    · rintro (⟨i, hi, e⟩ | h)
      · exact ⟨i, by omega, e⟩
      · exact ⟨k, by omega, by simpa using h⟩
    · rintro ⟨i, hi, e⟩
      by_cases c : i = k
      · subst c; exact .inr (by simp [e])
      · exact .inl ⟨i, by omega, e⟩
theorem r0_snd (w : List Int) : ∀ k, (r0 w k).map Prod.snd = (List.range k).map (fun i : Nat => (i : Int))
  | 0 => rfl
  | k + 1 => by rw [r0, List.map_append, r0_snd w k, List.range_succ, List.map_append]; rfl
theorem r0_nd (w : List Int) (k : Nat) : ((r0 w k).map Prod.snd).Nodup := by
  rw [r0_snd]
  refine List.pairwise_map.2 ?_
  exact List.nodup_range.imp (fun {a b} h e => h (by omega))
theorem jq_r0 (w : List Int) : ∀ k, (jq w k).Perm (r0 w k)
  | 0 => .refl _
  | k + 1 => by
    have ih := jq_r0 w k
    rw [jq, r0]
    exact (put_heap (jq_heap w k) _).2.trans (ih.append_right _)
/-- in order -/
def srt : List Tr → List Tr
  | [] => []
  | x :: l => inr x (srt l)
theorem srt_perm : ∀ l, (srt l).Perm l
  | [] => .refl _
  | x :: l => (ins_perm id x (srt l)).trans ((srt_perm l).cons x)
theorem srt_pw : ∀ l, (srt l).Pairwise le
  | [] => .nil
  | x :: l => ins_pw x _ (srt_pw l)
/-- the row, round by round -/
def S (w : List Int) : Nat → List Tr
  | 0 => srt (r0 w w.length)
  | r + 1 => match S w r with
    | a :: b :: l => inr (a.1 + b.1, (w.length : Int) + (r : Int)) l
    | l => l
theorem S0_row {w : List Int} (hw : ∀ x ∈ w, 0 ≤ x) : Row (S w 0) w.length := by
  have hp := srt_perm (r0 w w.length)
  refine ⟨srt_pw _, ((hp.map Prod.snd).nodup_iff).2 (r0_nd w _), fun p hp2 => ?_, fun p hp2 => ?_⟩
  · obtain ⟨i, hi, rfl⟩ := (r0_mem w _ p).1 (hp.mem_iff.1 hp2)
    simp only; omega
  · obtain ⟨i, hi, rfl⟩ := (r0_mem w _ p).1 (hp.mem_iff.1 hp2)
    refine hw _ ?_
    show w.getD i 0 ∈ w
    rw [List.getD_eq_getElem?_getD, List.getElem?_eq_getElem hi]; exact List.getElem_mem hi
theorem S0_len (w : List Int) : (S w 0).length = w.length := by
  have := (srt_perm (r0 w w.length)).length_eq
  rw [r0_len] at this; exact this
theorem S_two {w : List Int} {r : Nat} {a b : Tr} {l : List Tr} (h : S w r = a :: b :: l) : S w (r + 1) = inr (a.1 + b.1, (w.length : Int) + (r : Int)) l := by
  rw [S, h]
theorem two_of {α : Type} {l : List α} (h : 2 ≤ l.length) : ∃ a b t, l = a :: b :: t := by
  match l, h with
  | [], h => simp at h
  | [a], h => simp at h
  | a :: b :: t, _ => exact ⟨a, b, t, rfl⟩
theorem S_row {w : List Int} (hw : ∀ x ∈ w, 0 ≤ x) : ∀ r, r + 1 ≤ w.length → Row (S w r) ((w.length : Int) + (r : Int)) ∧ (S w r).length = w.length - r
  | 0, h => ⟨by simpa using S0_row hw, S0_len w⟩
  | r + 1, h => by
    obtain ⟨h1, h2⟩ := S_row hw r (by omega)
    obtain ⟨a, b, t, e⟩ := two_of (show 2 ≤ (S w r).length by omega)
    rw [e] at h1 h2
    rw [S_two e]
    have hl : (inr (a.1 + b.1, (w.length : Int) + (r : Int)) t).length = t.length + 1 := ins_len _ _ _
    refine ⟨?_, by rw [hl]; simp at h2; omega⟩
    have := h1.next
    rw [show ((w.length : Int) + ((r + 1 : Nat) : Int)) = (w.length : Int) + (r : Int) + 1 by omega]
    exact this
/-- the least of a heap, and of a row in order -/
theorem least_eq {h : List Tr} {a : Tr} {l : List Tr} (hh : Heap h) (hp : h.Perm (a :: l)) (hs : (a :: l).Pairwise le) : gt h 0 = a := by
  have hl : 0 < h.length := by rw [hp.length_eq]; simp
  have h1 : gt h 0 ∈ a :: l := hp.mem_iff.1 (gt_mem hl)
  have h2 : a ∈ h := hp.mem_iff.2 (by simp)
  obtain ⟨i, hi, e⟩ := List.mem_iff_getElem.1 h2
  have h3 := root_le hh i hi
  have e2 : gt h i = a := by show h.getD i (0, 0) = a; rw [List.getD_eq_getElem?_getD, List.getElem?_eq_getElem hi]; exact e
  rw [e2] at h3
  refine le_anti h3 ?_
  rcases List.mem_cons.1 h1 with e3 | e3
  · rw [e3]; exact le_refl _
  · exact (List.pairwise_cons.1 hs).1 _ e3
theorem jst_S {w : List Int} (hw : ∀ x ∈ w, 0 ≤ x) (h2 : 2 ≤ w.length) : ∀ r, r + 1 ≤ w.length → (jst w r).1.Perm (S w r)
  | 0, _ => (jq_r0 w _).trans (srt_perm _).symm
  | r + 1, h => by
    have ih := jst_S hw h2 r (by omega)
    have hi := inv hw h2 r (by omega)
    have ht := two hi (by omega)
    obtain ⟨hr, hl⟩ := S_row hw r (by omega)
    obtain ⟨a, b, t, e⟩ := two_of (show 2 ≤ (S w r).length by omega)
    rw [S_two e]
    rw [e] at ih hr
    have ea := least_eq hi.heap ih hr.s
    obtain ⟨a1, a2⟩ := take_heap hi.heap (by have := ht.l0; omega)
    rw [ea] at a2
    have p1 : (rest (jst w r).1).Perm (b :: t) := (List.Perm.cons_inv (a2.trans ih))
    have eb := least_eq a1 p1 (List.pairwise_cons.1 hr.s).2
    obtain ⟨b1, b2⟩ := take_heap a1 (by have := p1.length_eq; simp at this; omega)
    rw [eb] at b2
    have p2 : (rest (rest (jst w r).1)).Perm t := List.Perm.cons_inv (b2.trans p1)
    have hp := (put_heap ht.hp ((gt (jst w r).1 0).1 + (gt (rest (jst w r).1) 0).1, ((w.length : Int) + (r : Int)))).2
    rw [jst]
    refine hp.trans ?_
    rw [ea, eb]
    exact ((p2.append_right _).trans List.perm_append_comm).trans (ins_perm id _ t).symm
theorem jst_two {w : List Int} (hw : ∀ x ∈ w, 0 ≤ x) (h2 : 2 ≤ w.length) {r : Nat} (h : r + 2 ≤ w.length) {a b : Tr} {t : List Tr} (e : S w r = a :: b :: t) :
    (jst w (r + 1)).2 = ((jst w r).2.set a.2.toNat ((w.length : Int) + (r : Int))).set b.2.toNat ((w.length : Int) + (r : Int)) := by
  have ih := jst_S hw h2 r (by omega)
  have hi := inv hw h2 r (by omega)
  obtain ⟨hr, _⟩ := S_row hw r (by omega)
  rw [e] at ih hr
  have ea := least_eq hi.heap ih hr.s
  obtain ⟨a1, a2⟩ := take_heap hi.heap (by rw [ih.length_eq]; simp)
  rw [ea] at a2
  have p1 : (rest (jst w r).1).Perm (b :: t) := (List.Perm.cons_inv (a2.trans ih))
  have eb := least_eq a1 p1 (List.pairwise_cons.1 hr.s).2
  rw [jst, ea, eb]
theorem S_pos {w : List Int} (hw : ∀ x ∈ w, 0 ≤ x) : ∀ r, r + 1 ≤ w.length → ∀ p ∈ S w r, 0 ≤ p.2
  | 0, _, p, hp => by
    obtain ⟨i, _, rfl⟩ := (r0_mem w _ p).1 ((srt_perm _).mem_iff.1 hp)
    simp
  | r + 1, h, p, hp => by
    obtain ⟨_, hl⟩ := S_row hw r (by omega)
    obtain ⟨a, b, t, e⟩ := two_of (show 2 ≤ (S w r).length by omega)
    rw [S_two e] at hp
    rcases List.mem_cons.1 ((ins_perm id _ t).mem_iff.1 hp) with e2 | e2
    · rw [e2]; simp only; omega
    · exact S_pos hw r (by omega) p (by rw [e]; simp [e2])
/-- what was told of a place that waits no longer stays told -/
theorem stays {w : List Int} (hw : ∀ x ∈ w, 0 ≤ x) (h2 : 2 ≤ w.length) {p : Nat} : ∀ (d r : Nat), r + d + 1 ≤ w.length → p < w.length + r → (∀ q ∈ S w r, q.2 ≠ (p : Int)) → (jst w (r + d)).2.getD p 0 = (jst w r).2.getD p 0 ∧ ∀ q ∈ S w (r + d), q.2 ≠ (p : Int)
  | 0, _, _, _, hn => ⟨rfl, hn⟩
  | d + 1, r, h, hp, hn => by
    obtain ⟨i1, i2⟩ := stays hw h2 d r (by omega) hp hn
    obtain ⟨_, hl⟩ := S_row hw (r + d) (by omega)
    obtain ⟨a, b, t, e⟩ := two_of (show 2 ≤ (S w (r + d)).length by omega)
    rw [e] at i2
    have ha := i2 a (by simp)
    have hb := i2 b (by simp)
    have pa := S_pos hw (r + d) (by omega) a (by rw [e]; simp)
    have pb := S_pos hw (r + d) (by omega) b (by rw [e]; simp)
    refine ⟨?_, fun q hq => ?_⟩
    · rw [← Nat.add_assoc, jst_two hw h2 (by omega) e, ← i1, List.getD_eq_getElem?_getD, List.getElem?_set_ne (by omega), List.getElem?_set_ne (by omega), ← List.getD_eq_getElem?_getD]
    · rw [← Nat.add_assoc, S_two e] at hq
      rcases List.mem_cons.1 ((ins_perm id _ t).mem_iff.1 hq) with e2 | e2
      · rw [e2]; simp only; omega
      · exact i2 q (by simp [e2])
theorem gd_set' {l : List Int} {i k : Nat} {x : Int} (hi : i < l.length) : (l.set i x).getD k 0 = if k = i then x else l.getD k 0 := by
  rw [List.getD_eq_getElem?_getD, List.getElem?_set]
  by_cases e : i = k
  · subst e; rw [if_pos rfl, if_pos hi, if_pos rfl]; rfl
  · rw [if_neg e, if_neg (Ne.symm e), ← List.getD_eq_getElem?_getD]
theorem told {w : List Int} (hw : ∀ x ∈ w, 0 ≤ x) (h2 : 2 ≤ w.length) {r : Nat} (h : r + 2 ≤ w.length) {a b : Tr} {t : List Tr} (e : S w r = a :: b :: t) :
    (jst w (w.length - 1)).2.getD a.2.toNat 0 = (w.length : Int) + (r : Int) ∧ (jst w (w.length - 1)).2.getD b.2.toNat 0 = (w.length : Int) + (r : Int) := by
  obtain ⟨hr, hl⟩ := S_row hw r (by omega)
  have hi := inv hw h2 r (by omega)
  rw [e] at hr
  have pa := S_pos hw r (by omega) a (by rw [e]; simp)
  have pb := S_pos hw r (by omega) b (by rw [e]; simp)
  have na := hr.n a (by simp)
  have nb := hr.n b (by simp)
  have hwl := hi.wl
  have hd := hr.d
  rw [List.map_cons, List.map_cons] at hd
  obtain ⟨d1, d2⟩ := List.nodup_cons.1 hd
  have hab : a.2 ≠ b.2 := fun h => d1 (by rw [h]; simp)
  have hno : ∀ p : Tr, p = a ∨ p = b → ∀ q ∈ S w (r + 1), q.2 ≠ (p.2.toNat : Int) := fun p hp q hq => by
    rw [S_two e] at hq
    have h0 : (p.2.toNat : Int) = p.2 := by rcases hp with h | h <;> rw [h] <;> omega
    rw [h0]
    rcases List.mem_cons.1 ((ins_perm id _ t).mem_iff.1 hq) with e2 | e2
    · rw [e2]; rcases hp with h | h <;> rw [h] <;> simp only <;> omega
    · have := hr.nab e2
      rcases hp with h | h <;> rw [h] <;> omega
  have e1 := jst_two hw h2 h e
  have hl1 : a.2.toNat < (jst w r).2.length := by omega
  have hl2 : b.2.toNat < ((jst w r).2.set a.2.toNat ((w.length : Int) + (r : Int))).length := by rw [List.length_set]; omega
  have st := fun (p : Tr) (hp : p = a ∨ p = b) => (stays hw h2 (p := p.2.toNat) (w.length - 1 - (r + 1)) (r + 1) (by omega) (by rcases hp with h | h <;> rw [h] <;> omega) (hno p hp)).1
  rw [show r + 1 + (w.length - 1 - (r + 1)) = w.length - 1 by omega] at st
  refine ⟨?_, ?_⟩
  · rw [st a (.inl rfl), e1, gd_set' hl2, if_neg (by omega), gd_set' hl1, if_pos rfl]
  · rw [st b (.inr rfl), e1, gd_set' hl2, if_pos rfl]
theorem dpt_end (l : List Int) (n : Nat) {q : Nat} : ∀ (d j : Nat), n - 1 - j ≤ q → (dpt l n (j + d)).getD q 0 = (dpt l n j).getD q 0 ∨ n - 2 - j = q ∨ n ≤ j + d + 1
  | 0, j, _ => .inl rfl
  | d + 1, j, h => by
    by_cases c : n ≤ j + (d + 1) + 1
    · exact .inr (.inr c)
    · rcases dpt_end l n d j h with e | e | e
      · refine .inl ?_
        rw [← Nat.add_assoc, dpt, ← e, List.getD_eq_getElem?_getD, List.getElem?_set_ne (by omega), ← List.getD_eq_getElem?_getD]
      · exact .inr (.inl e)
      · omega
theorem dpt_fin (l : List Int) (n : Nat) {q j k : Nat} (hq : n - 1 - j ≤ q) (hjk : j ≤ k) (hk : k + 1 ≤ n) : (dpt l n k).getD q 0 = (dpt l n j).getD q 0 := by
  obtain ⟨d, rfl⟩ : ∃ d, k = j + d := ⟨k - j, by omega⟩
  induction d with
  | zero => rfl
  | succ d ih => rw [← Nat.add_assoc, dpt, List.getD_eq_getElem?_getD, List.getElem?_set_ne (by omega), ← List.getD_eq_getElem?_getD, ih (by omega) (by omega)]
/-- how deep, at last -/
def A (w : List Int) : List Int := dpt (jst w (w.length - 1)).2 (2 * w.length - 1) (2 * w.length - 2)
theorem A_root {w : List Int} (h2 : 2 ≤ w.length) : (A w).getD (2 * w.length - 2) 0 = 0 := by
  rw [A, dpt_fin _ _ (j := 0) (by omega) (by omega) (by omega), dpt]
  rw [List.getD_eq_getElem?_getD, List.getElem?_replicate]
  split <;> rfl
theorem A_step {w : List Int} (h2 : 2 ≤ w.length) {p : Nat} (hp : p + 2 < 2 * w.length) {v : Nat} (hv : (jst w (w.length - 1)).2.getD p 0 = (v : Int)) (hpv : p < v) : (A w).getD p 0 = (A w).getD v 0 + 1 := by
  have hj : 2 * w.length - 1 - 2 - (2 * w.length - 3 - p) = p := by omega
  have e1 : (A w).getD p 0 = (dpt (jst w (w.length - 1)).2 (2 * w.length - 1) (2 * w.length - 3 - p + 1)).getD p 0 := by
    rw [A, dpt_fin _ _ (j := 2 * w.length - 3 - p + 1) (by omega) (by omega) (by omega)]
  have e2 : (A w).getD v 0 = (dpt (jst w (w.length - 1)).2 (2 * w.length - 1) (2 * w.length - 3 - p)).getD v 0 := by
    rw [A, dpt_fin _ _ (j := 2 * w.length - 3 - p) (by omega) (by omega) (by omega)]
  rw [e1, e2, dpt, hj, gd_set' (by rw [dpt_len]; omega), if_pos rfl, hv]
  rfl
theorem A_D {w : List Int} (hw : ∀ x ∈ w, 0 ≤ x) (h2 : 2 ≤ w.length) : ∀ (d r : Nat), r + d + 1 = w.length → ∀ p ∈ S w r, (A w).getD p.2.toNat 0 = (D (S w r) ((w.length : Int) + (r : Int)) p.2 : Int)
  | 0, r, h, p, hp => by
    obtain ⟨_, hl⟩ := S_row hw (r - 1) (by omega)
    obtain ⟨a, b, t, e⟩ := two_of (show 2 ≤ (S w (r - 1)).length by omega)
    have e2 := S_two e
    rw [show r - 1 + 1 = r by omega] at e2
    have ht : t = [] := by rw [e] at hl; simp at hl; exact List.eq_nil_of_length_eq_zero (by omega)
    rw [ht] at e2
    have e3 : S w r = [(a.1 + b.1, (w.length : Int) + ((r - 1 : Nat) : Int))] := e2
    rw [e3] at hp ⊢
    have hpe : p = (a.1 + b.1, (w.length : Int) + ((r - 1 : Nat) : Int)) := by simpa using hp
    rw [D_one, hpe]
    simp only
    rw [show ((w.length : Int) + ((r - 1 : Nat) : Int)).toNat = 2 * w.length - 2 by omega, A_root h2]; rfl
  | d + 1, r, h, p, hp => by
    have ih := A_D hw h2 d (r + 1) (by omega)
    obtain ⟨hr, hl⟩ := S_row hw r (by omega)
    obtain ⟨a, b, t, e⟩ := two_of (show 2 ≤ (S w r).length by omega)
    have ht := told hw h2 (by omega) e
    rw [S_two e] at ih
    have hcm : ((a.1 + b.1, (w.length : Int) + (r : Int)) : Tr) ∈ inr (a.1 + b.1, (w.length : Int) + (r : Int)) t := (ins_perm id _ t).mem_iff.2 (by simp)
    have hc := ih _ hcm
    simp only at hc
    rw [show ((w.length : Int) + ((r + 1 : Nat) : Int)) = (w.length : Int) + (r : Int) + 1 by omega] at ih hc
    have hv : ((w.length : Int) + (r : Int)) = ((w.length + r : Nat) : Int) := by omega
    have hvn : ((w.length : Int) + (r : Int)).toNat = w.length + r := by omega
    have pp := S_pos hw r (by omega) p hp
    have np := hr.n p hp
    rw [hvn] at hc
    have key : (jst w (w.length - 1)).2.getD p.2.toNat 0 = (w.length : Int) + (r : Int) → (A w).getD p.2.toNat 0 = (D (inr (a.1 + b.1, (w.length : Int) + (r : Int)) t) ((w.length : Int) + (r : Int) + 1) ((w.length : Int) + (r : Int)) : Int) + 1 := fun h3 => by
      rw [A_step h2 (p := p.2.toNat) (v := w.length + r) (by omega) (by rw [h3, hv]) (by omega), hc]
    rw [e] at hp hr ⊢
    rcases List.mem_cons.1 hp with e2 | e2
    · rw [e2] at key ⊢
      rw [Row.Da, key ht.1]; rfl
    · rcases List.mem_cons.1 e2 with e2 | e2
      · rw [e2] at key ⊢
        rw [Row.Db, key ht.2]; rfl
      · rw [hr.Dl e2]
        exact ih p ((ins_perm id _ t).mem_iff.2 (List.mem_cons_of_mem _ e2))
theorem S0_mem {w : List Int} {i : Nat} (hi : i < w.length) : ((w.getD i 0, (i : Int)) : Tr) ∈ S w 0 := (srt_perm _).mem_iff.2 ((r0_mem w _ _).2 ⟨i, hi, rfl⟩)
theorem S0_at {w : List Int} {p : Tr} (hp : p ∈ S w 0) : ∃ i, i < w.length ∧ p = (w.getD i 0, (i : Int)) := (r0_mem w _ _).1 ((srt_perm _).mem_iff.1 hp)
/-- how deep the weight at a place comes to be -/
def Dw (w : List Int) (i : Nat) : Nat := D (S w 0) w.length (i : Int)
theorem joinV_len {w : List Int} (h2 : 2 ≤ w.length) : (joinV w).length = w.length := by
  rw [joinV, List.length_take, dpt_len]; omega
theorem joinV_at {w : List Int} (hw : ∀ x ∈ w, 0 ≤ x) (h2 : 2 ≤ w.length) {i : Nat} (hi : i < w.length) : (joinV w).getD i 0 = (Dw w i : Int) := by
  have := A_D hw h2 (w.length - 1) 0 (by omega) _ (S0_mem hi)
  simp only [Int.toNat_natCast] at this
  rw [show ((w.length : Int) + ((0 : Nat) : Int)) = (w.length : Int) by omega] at this
  rw [Dw, ← this, joinV, A, List.getD_eq_getElem?_getD, List.getElem?_take, if_pos hi, ← List.getD_eq_getElem?_getD]
end Wf
end Go.Proofs.Ytdcenocljnlipaa
