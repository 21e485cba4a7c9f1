/-
  MATHS of stage 10: trees of weights that are joined, in a row that stands in order.
-/
import Derived.Test.YtdcenocljnlipaaWc
namespace Go.Proofs.Ytdcenocljnlipaa
open Go.RowKit
namespace We
open Ab Wa Wb Wm
/-- into a row that stands in order -/
def ins {α : Type} (k : α → Tr) (x : α) : List α → List α
  | [] => [x]
  | y :: l => if ahd (k y) (k x) then y :: ins k x l else x :: y :: l
abbrev inr (x : Tr) (l : List Tr) : List Tr := ins id x l
theorem ins_perm {α : Type} (k : α → Tr) (x : α) : ∀ l, (ins k x l).Perm (x :: l)
  | [] => .refl _
  | y :: l => by
    rw [ins]
    by_cases c : ahd (k y) (k x) = true
    · rw [if_pos c]; exact ((ins_perm k x l).cons y).trans (.swap x y l)
    · rw [if_neg c]
theorem ins_len {α : Type} (k : α → Tr) (x : α) (l : List α) : (ins k x l).length = l.length + 1 := (ins_perm k x l).length_eq
theorem ins_sub {α : Type} (k : α → Tr) (x : α) : ∀ l : List α, l.Sublist (ins k x l)
  | [] => List.nil_sublist _
  | y :: l => by
    rw [ins]
    by_cases c : ahd (k y) (k x) = true
    · rw [if_pos c]; exact (ins_sub k x l).cons_cons y
    · rw [if_neg c]; exact List.sublist_cons_self _ _
theorem ins_map {α : Type} (k : α → Tr) (x : α) : ∀ l : List α, (ins k x l).map k = inr (k x) (l.map k)
  | [] => rfl
  | y :: l => by
    rw [ins, List.map_cons]
    show _ = ins id (k x) (k y :: l.map k)
    rw [ins]
    simp only [id]
    by_cases c : ahd (k y) (k x) = true
    · rw [if_pos c, if_pos c, List.map_cons, ins_map k x l]
    · rw [if_neg c, if_neg c, List.map_cons]; rfl
theorem ins_pw (x : Tr) : ∀ l : List Tr, l.Pairwise le → (inr x l).Pairwise le
  | [], _ => List.pairwise_singleton _ _
  | y :: l, h => by
    obtain ⟨h1, h2⟩ := List.pairwise_cons.1 h
    show (ins id x (y :: l)).Pairwise le
    rw [ins]
    by_cases c : ahd (id y) (id x) = true
    · rw [if_pos c]
      refine List.pairwise_cons.2 ⟨fun z hz => ?_, ins_pw x l h2⟩
      rcases List.mem_cons.1 ((ins_perm id x l).mem_iff.1 hz) with e | e
      · rw [e]; exact ahd_y c
      · exact h1 z e
    · rw [if_neg c]
      have hxy : le x y := ahd_n c
      refine List.pairwise_cons.2 ⟨fun z hz => ?_, h⟩
      rcases List.mem_cons.1 hz with e | e
      · rw [e]; exact hxy
      · exact le_trans hxy (h1 z e)
/-- how deep what stands at each place comes to be -/
def dep : Nat → List Tr → Int → Int → Nat
  | 0, _, _, _ => 0
  | m + 1, a :: b :: l, nx, p => if p = a.2 ∨ p = b.2 then dep m (inr (a.1 + b.1, nx) l) (nx + 1) nx + 1 else dep m (inr (a.1 + b.1, nx) l) (nx + 1) p
  | _ + 1, _, _, _ => 0
def D (l : List Tr) (nx p : Int) : Nat := dep l.length l nx p
theorem D_two (a b : Tr) (l : List Tr) (nx p : Int) : D (a :: b :: l) nx p = if p = a.2 ∨ p = b.2 then D (inr (a.1 + b.1, nx) l) (nx + 1) nx + 1 else D (inr (a.1 + b.1, nx) l) (nx + 1) p := by
  have hl : (inr (a.1 + b.1, nx) l).length = l.length + 1 := ins_len _ _ _
  unfold D
  rw [hl]; rfl
theorem D_one (a : Tr) (nx p : Int) : D [a] nx p = 0 := rfl
structure Row (l : List Tr) (nx : Int) : Prop where
  s : l.Pairwise le
  d : (l.map Prod.snd).Nodup
  n : ∀ p ∈ l, p.2 < nx
  w : ∀ p ∈ l, 0 ≤ p.1
theorem Row.next {a b : Tr} {l : List Tr} {nx : Int} (h : Row (a :: b :: l) nx) : Row (inr (a.1 + b.1, nx) l) (nx + 1) := by
  have hp := ins_perm id (a.1 + b.1, nx) l
  have hs := (List.pairwise_cons.1 (List.pairwise_cons.1 h.s).2).2
  have hd : (l.map Prod.snd).Nodup := (List.nodup_cons.1 (List.nodup_cons.1 h.d).2).2
  refine ⟨ins_pw _ _ hs, ?_, fun p hp2 => ?_, fun p hp2 => ?_⟩
  · refine ((hp.map Prod.snd).nodup_iff).2 ?_
    rw [List.map_cons]
    refine List.nodup_cons.2 ⟨fun hm => ?_, hd⟩
    obtain ⟨q, hq, e⟩ := List.mem_map.1 hm
    have := h.n q (by simp [hq])
    simp only at e; omega
  · rcases List.mem_cons.1 (hp.mem_iff.1 hp2) with e | e
    · rw [e]; simp only; omega
    · have := h.n p (by simp [e]); omega
  · rcases List.mem_cons.1 (hp.mem_iff.1 hp2) with e | e
    · rw [e]
      have h1 := h.w a (by simp); have h2 := h.w b (by simp)
      simp only; omega
    · exact h.w p (by simp [e])
theorem Row.nab {a b : Tr} {l : List Tr} {nx : Int} (h : Row (a :: b :: l) nx) {y : Tr} (hy : y ∈ l) : ¬ (y.2 = a.2 ∨ y.2 = b.2) := by
  have hd := h.d
  rw [List.map_cons, List.map_cons] at hd
  obtain ⟨h1, h2⟩ := List.nodup_cons.1 hd
  obtain ⟨h3, _⟩ := List.nodup_cons.1 h2
  have hm := List.mem_map_of_mem (f := Prod.snd) hy
  rintro (e | e)
  · exact h1 (by rw [← e]; exact List.mem_cons_of_mem _ hm)
  · exact h3 (by rw [← e]; exact hm)
theorem Row.Da {a b : Tr} {l : List Tr} {nx : Int} : D (a :: b :: l) nx a.2 = D (inr (a.1 + b.1, nx) l) (nx + 1) nx + 1 := by rw [D_two, if_pos (.inl rfl)]
theorem Row.Db {a b : Tr} {l : List Tr} {nx : Int} : D (a :: b :: l) nx b.2 = D (inr (a.1 + b.1, nx) l) (nx + 1) nx + 1 := by rw [D_two, if_pos (.inr rfl)]
theorem Row.Dl {a b : Tr} {l : List Tr} {nx : Int} (h : Row (a :: b :: l) nx) {y : Tr} (hy : y ∈ l) : D (a :: b :: l) nx y.2 = D (inr (a.1 + b.1, nx) l) (nx + 1) y.2 := by rw [D_two, if_neg (h.nab hy)]
theorem pw_mem {α : Type} {R : α → α → Prop} {l : List α} (h : l.Pairwise R) {x y : α} (hx : x ∈ l) (hy : y ∈ l) (hn : x ≠ y) : R x y ∨ R y x := by
  induction l with
  | nil => cases hx
  | cons z l ih =>
    obtain ⟨h1, h2⟩ := List.pairwise_cons.1 h
    rcases List.mem_cons.1 hx with e | e <;> rcases List.mem_cons.1 hy with e2 | e2
    · exact absurd (e.trans e2.symm) hn
    · rw [e]; exact .inl (h1 y e2)
    · rw [e2]; exact .inr (h1 x e)
    · exact ih h2 e e2
theorem mono_gap : ∀ (n : Nat) (l : List Tr) (nx : Int), l.length = n → Row l nx →
    l.Pairwise (fun x y => D l nx y.2 ≤ D l nx x.2) ∧ ∀ a b t, l = a :: b :: t → ∀ y ∈ l, y.1 ≤ a.1 + b.1 → D l nx a.2 ≤ D l nx y.2 + 1 := by
  intro n
  induction n with
  | zero => intro l nx hl h; cases l with
    | nil => exact ⟨.nil, fun a b t e => by cases e⟩
    | cons _ _ => cases hl
  | succ n ih =>
    intro l nx hl h
    match l, hl, h with
    | [a], _, _ => exact ⟨List.pairwise_singleton _ _, fun a b t e => by cases e⟩
    | a :: b :: l, hl, h =>
      have hR := h.next
      have hlen : (inr (a.1 + b.1, nx) l).length = n := by have := ins_len id (a.1 + b.1, nx) l; simp at hl; show (ins id _ l).length = n; omega
      obtain ⟨im, ig⟩ := ih (inr (a.1 + b.1, nx) l) (nx + 1) hlen hR
      have hcm : ((a.1 + b.1, nx) : Tr) ∈ inr (a.1 + b.1, nx) l := (ins_perm id _ l).mem_iff.2 (by simp)
      have hlm : ∀ y ∈ l, y ∈ inr (a.1 + b.1, nx) l := fun y hy => (ins_perm id _ l).mem_iff.2 (List.mem_cons_of_mem _ hy)
      have hao := (List.pairwise_cons.1 h.s).1
      have hbo := (List.pairwise_cons.1 (List.pairwise_cons.1 h.s).2).1
      have hab : a.1 ≤ b.1 := by have := hao b (by simp); unfold le at this; omega
      have h0 := h.w a (by simp)
      have hbig : ∀ z ∈ inr (a.1 + b.1, nx) l, b.1 ≤ z.1 := fun z hz => by
        rcases List.mem_cons.1 ((ins_perm id _ l).mem_iff.1 hz) with e | e
        · rw [e]; simp only; omega
        · have := hbo z e; unfold le at this; omega
      have hlast : ∀ y ∈ l, D (inr (a.1 + b.1, nx) l) (nx + 1) y.2 ≤ D (inr (a.1 + b.1, nx) l) (nx + 1) nx + 1 := fun y hy => by
        generalize hR' : inr (a.1 + b.1, nx) l = R' at *
        match R', hR' with
        | [], _ => cases hcm
        | [z], _ =>
          have := hlm y hy
          have h1 : y = z := by simpa using this
          have h2 : ((a.1 + b.1, nx) : Tr) = z := by simpa using hcm
          rw [h1]
          have : z.2 = nx := by rw [← h2]
          rw [this]; omega
        | a' :: b' :: t, _ =>
          have hg := ig a' b' t rfl _ hcm (by have := hbig a' (by simp); have := hbig b' (by simp); simp only; omega)
          have hm := (List.pairwise_cons.1 im).1
          simp only at hg
          by_cases e : y = a'
          · rw [e]; exact hg
          · have hy2 := hlm y hy
            have := hm y ((List.mem_cons.1 hy2).resolve_left e)
            omega
      refine ⟨List.pairwise_cons.2 ⟨fun y hy => ?_, List.pairwise_cons.2 ⟨fun y hy => ?_, ?_⟩⟩, fun a2 b2 t e y hy hw => ?_⟩
      · rcases List.mem_cons.1 hy with e | e
        · rw [e, Row.Da, Row.Db]; exact Nat.le_refl _
        · rw [Row.Da, h.Dl e]; exact hlast y e
      · rw [Row.Db, h.Dl hy]; exact hlast y hy
      · refine (im.sublist (ins_sub id _ l)).imp_of_mem (fun {x y} hx hy hxy => ?_)
        rw [h.Dl hx, h.Dl hy]; exact hxy
      · cases e
        rcases List.mem_cons.1 hy with e | e
        · rw [e]; omega
        · rcases List.mem_cons.1 e with e | e
          · rw [e, Row.Da, Row.Db]; omega
          · rw [Row.Da, h.Dl e]
            have hne : y ≠ ((a.1 + b.1, nx) : Tr) := fun e2 => by
              have h3 := h.n y (by simp [e]); rw [e2] at h3; simp only at h3; omega
            have hyn := h.n y (by simp [e])
            have := pw_mem (hR.s.and im) (hlm y e) hcm hne
            rcases this with ⟨_, h4⟩ | ⟨h4, _⟩
            · simp only at h4; omega
            · exfalso; unfold le at h4; simp only at h4; omega
theorem Row.mono {l : List Tr} {nx : Int} (h : Row l nx) : l.Pairwise (fun x y => D l nx y.2 ≤ D l nx x.2) := (mono_gap _ l nx rfl h).1
theorem Row.gap {a b : Tr} {l : List Tr} {nx : Int} (h : Row (a :: b :: l) nx) {y : Tr} (hy : y ∈ a :: b :: l) (hw : y.1 ≤ a.1 + b.1) : D (a :: b :: l) nx a.2 ≤ D (a :: b :: l) nx y.2 + 1 := (mono_gap _ _ nx rfl h).2 a b l rfl y hy hw
theorem Row.top {a : Tr} {l : List Tr} {nx : Int} (h : Row (a :: l) nx) {y : Tr} (hy : y ∈ a :: l) : D (a :: l) nx y.2 ≤ D (a :: l) nx a.2 := by
  rcases List.mem_cons.1 hy with e | e
  · rw [e]; exact Nat.le_refl _
  · exact (List.pairwise_cons.1 h.mono).1 y e
/-- a greater weight is no deeper -/
theorem Row.order {l : List Tr} {nx : Int} (h : Row l nx) {x y : Tr} (hx : x ∈ l) (hy : y ∈ l) (hw : x.1 < y.1) : D l nx y.2 ≤ D l nx x.2 := by
  have hne : x ≠ y := fun e => by rw [e] at hw; omega
  rcases pw_mem (h.s.and h.mono) hx hy hne with ⟨_, h4⟩ | ⟨h4, _⟩
  · exact h4
  · exfalso; unfold le at h4; omega
theorem Row.alike : ∀ (n : Nat) (l : List Tr) (nx : Int), l.length = n → Row l nx → ∀ x ∈ l, ∀ y ∈ l, x.1 = y.1 → D l nx x.2 ≤ D l nx y.2 + 1 := by
  intro n
  induction n with
  | zero => intro l nx hl h x hx; rw [List.length_eq_zero_iff.1 hl] at hx; cases hx
  | succ n ih =>
    intro l nx hl h x hx y hy hw
    match l, hl, h with
    | [a], _, _ => rw [D_one]; omega
    | a :: b :: l, hl, h =>
      have hlen : (inr (a.1 + b.1, nx) l).length = n := by have := ins_len id (a.1 + b.1, nx) l; simp at hl; show (ins id _ l).length = n; omega
      have hao := h.w a (by simp)
      have hbo := h.w b (by simp)
      have hlm : ∀ y ∈ l, y ∈ inr (a.1 + b.1, nx) l := fun y hy => (ins_perm id _ l).mem_iff.2 (List.mem_cons_of_mem _ hy)
      have ht := h.top hx
      rcases List.mem_cons.1 hx with e | e
      · rw [e] at hw ⊢; exact h.gap hy (by omega)
      · rcases List.mem_cons.1 e with e | e
        · rw [e] at hw ⊢
          have := h.gap hy (by omega)
          rw [Row.Da] at this; rw [Row.Db]; exact this
        · rcases List.mem_cons.1 hy with e2 | e2
          · rw [e2]; omega
          · rcases List.mem_cons.1 e2 with e2 | e2
            · rw [e2, Row.Db, ← Row.Da]; omega
            · rw [h.Dl e, h.Dl e2]; exact ih _ _ hlen h.next x (hlm x e) y (hlm y e2) hw
theorem Row.bound : ∀ (n : Nat) (l : List Tr) (nx : Int), l.length = n → Row l nx → ∀ x ∈ l, D l nx x.2 + 1 ≤ l.length := by
  intro n
  induction n with
  | zero => intro l nx hl h x hx; rw [List.length_eq_zero_iff.1 hl] at hx; cases hx
  | succ n ih =>
    intro l nx hl h x hx
    match l, hl, h with
    | [a], _, _ => rw [D_one]; simp
    | a :: b :: l, hl, h =>
      have hl2 : (inr (a.1 + b.1, nx) l).length = l.length + 1 := ins_len _ _ _
      have hb := ih _ _ (by simp at hl; omega) h.next
      have hcm : ((a.1 + b.1, nx) : Tr) ∈ inr (a.1 + b.1, nx) l := (ins_perm id _ l).mem_iff.2 (by simp)
      have hc := hb _ hcm
      simp only at hc
      rw [List.length_cons, List.length_cons]
      rcases List.mem_cons.1 hx with e | e
      · rw [e, Row.Da]; omega
      · rcases List.mem_cons.1 e with e | e
        · rw [e, Row.Db]; omega
        · rw [h.Dl e]
          have := hb x ((ins_perm id _ l).mem_iff.2 (List.mem_cons_of_mem _ e)); omega
/-- all of it, as parts of 2^M -/
def kr (M : Nat) (f : Int → Nat) (l : List Tr) : Nat := (l.map (fun p => 2 ^ (M - f p.2))).sum
theorem sum_perm {l m : List Nat} (h : l.Perm m) : l.sum = m.sum := by
  induction h with
  | nil => rfl
  | cons x _ ih => simp [ih]
  | swap x y l => simp; omega
  | trans _ _ a b => exact a.trans b
theorem sumI_perm {l m : List Int} (h : l.Perm m) : l.sum = m.sum := by
  induction h with
  | nil => rfl
  | cons x _ ih => simp [ih]
  | swap x y l => simp; omega
  | trans _ _ a b => exact a.trans b
theorem pow_two' {M d : Nat} (h : d + 1 ≤ M) : 2 ^ (M - (d + 1)) + 2 ^ (M - (d + 1)) = 2 ^ (M - d) := by
  rw [show M - d = (M - (d + 1)) + 1 by omega, Nat.pow_succ]; omega
theorem Row.kraft (M : Nat) : ∀ (n : Nat) (l : List Tr) (nx : Int), l.length = n → l ≠ [] → Row l nx → l.length ≤ M + 1 → kr M (D l nx) l = 2 ^ M := by
  intro n
  induction n with
  | zero => intro l nx hl hn; exact absurd (List.length_eq_zero_iff.1 hl) hn
  | succ n ih =>
    intro l nx hl _ h hM
    match l, hl, h with
    | [a], _, _ => simp [kr, D_one]
    | a :: b :: l, hl, h =>
      have hl2 : (inr (a.1 + b.1, nx) l).length = l.length + 1 := ins_len _ _ _
      rw [List.length_cons, List.length_cons] at hM
      have hcm : ((a.1 + b.1, nx) : Tr) ∈ inr (a.1 + b.1, nx) l := (ins_perm id _ l).mem_iff.2 (by simp)
      have hb := Row.bound _ _ _ rfl h.next _ hcm
      have hk := ih _ _ (by simp at hl; omega) (fun e => by rw [e] at hcm; cases hcm) h.next (by omega)
      simp only at hb
      unfold kr at hk ⊢
      rw [sum_perm ((ins_perm id _ l).map _), List.map_cons, List.sum_cons] at hk
      rw [List.map_cons, List.map_cons, List.sum_cons, List.sum_cons, Row.Da, Row.Db, List.map_congr_left (fun y hy => by rw [h.Dl hy]), ← Nat.add_assoc, pow_two' (by omega)]
      exact hk
/-- what it costs -/
def cst (f : Int → Nat) (l : List Tr) : Int := (l.map (fun p => p.1 * (f p.2 : Int))).sum
theorem Row.cst {a b : Tr} {l : List Tr} {nx : Int} (h : Row (a :: b :: l) nx) : cst (D (a :: b :: l) nx) (a :: b :: l) = a.1 + b.1 + cst (D (inr (a.1 + b.1, nx) l) (nx + 1)) (inr (a.1 + b.1, nx) l) := by
  unfold We.cst
  rw [sumI_perm ((ins_perm id _ l).map _), List.map_cons, List.map_cons, List.map_cons, List.sum_cons, List.sum_cons, List.sum_cons, Row.Da, Row.Db, List.map_congr_left (fun y hy => by rw [h.Dl hy])]
  have e : ∀ x y : Int, (x + y) * ((D (inr (a.1 + b.1, nx) l) (nx + 1) nx : Nat) : Int) = x * (D (inr (a.1 + b.1, nx) l) (nx + 1) nx : Nat) + y * (D (inr (a.1 + b.1, nx) l) (nx + 1) nx : Nat) := fun x y => Int.add_mul _ _ _
  simp only [e, Int.natCast_add, Int.mul_add]
  have e1 : ((1 : Nat) : Int) = 1 := rfl
  rw [e1, Int.mul_one, Int.mul_one]
  omega
/-- lengths by hand, one for each of a row -/
abbrev As := Tr × Nat
def krP (M : Nat) (q : List As) : Nat := (q.map (fun e => 2 ^ (M - e.2))).sum
def cstP (q : List As) : Int := (q.map (fun e => e.1.1 * (e.2 : Int))).sum
/-- the greatest of the lengths to the front -/
def bring (v : Nat) : List As → Nat × List As
  | [] => (v, [])
  | e :: t => if v < e.2 then ((bring e.2 t).1, (e.1, v) :: (bring e.2 t).2) else ((bring v t).1, e :: (bring v t).2)
theorem bring_y {v : Nat} {e : As} {t : List As} (h : v < e.2) : bring v (e :: t) = ((bring e.2 t).1, (e.1, v) :: (bring e.2 t).2) := by rw [bring, if_pos h]
theorem bring_n {v : Nat} {e : As} {t : List As} (h : ¬ v < e.2) : bring v (e :: t) = ((bring v t).1, e :: (bring v t).2) := by rw [bring, if_neg h]
theorem bring_fst : ∀ (t : List As) (v : Nat), (bring v t).2.map Prod.fst = t.map Prod.fst
  | [], _ => rfl
  | e :: t, v => by
    by_cases c : v < e.2
    · rw [bring_y c, List.map_cons, List.map_cons, bring_fst t]
    · rw [bring_n c, List.map_cons, List.map_cons, bring_fst t]
theorem bring_ge : ∀ (t : List As) (v : Nat), v ≤ (bring v t).1 ∧ ∀ e ∈ (bring v t).2, e.2 ≤ (bring v t).1
  | [], v => ⟨Nat.le_refl _, fun e he => by cases he⟩
  | e :: t, v => by
    by_cases c : v < e.2
    · rw [bring_y c]
      have ih := bring_ge t e.2
      refine ⟨by simp only; omega, fun x hx => ?_⟩
      rcases List.mem_cons.1 hx with h | h
      · rw [h]; simp only; omega
      · exact ih.2 x h
    · rw [bring_n c]
      have ih := bring_ge t v
      refine ⟨ih.1, fun x hx => ?_⟩
      rcases List.mem_cons.1 hx with h | h
      · rw [h]; simp only; omega
      · exact ih.2 x h
theorem bring_le {b : Nat} : ∀ (t : List As) (v : Nat), v ≤ b → (∀ e ∈ t, e.2 ≤ b) → (bring v t).1 ≤ b ∧ ∀ e ∈ (bring v t).2, e.2 ≤ b
  | [], v, hv, _ => ⟨hv, fun e he => by cases he⟩
  | e :: t, v, hv, ht => by
    have he := ht e (by simp)
    by_cases c : v < e.2
    · rw [bring_y c]
      have ih := bring_le t e.2 he (fun x hx => ht x (by simp [hx]))
      refine ⟨ih.1, fun x hx => ?_⟩
      rcases List.mem_cons.1 hx with h | h
      · rw [h]; exact hv
      · exact ih.2 x h
    · rw [bring_n c]
      have ih := bring_le t v hv (fun x hx => ht x (by simp [hx]))
      refine ⟨ih.1, fun x hx => ?_⟩
      rcases List.mem_cons.1 hx with h | h
      · rw [h]; exact he
      · exact ih.2 x h
theorem bring_kr (M : Nat) : ∀ (t : List As) (v : Nat), 2 ^ (M - (bring v t).1) + krP M (bring v t).2 = 2 ^ (M - v) + krP M t
  | [], _ => rfl
  | e :: t, v => by
    by_cases c : v < e.2
    · have ih := bring_kr M t e.2
      rw [bring_y c]; unfold krP at *
      rw [List.map_cons, List.map_cons, List.sum_cons, List.sum_cons]; simp only at *; omega
    · have ih := bring_kr M t v
      rw [bring_n c]; unfold krP at *
      rw [List.map_cons, List.map_cons, List.sum_cons, List.sum_cons]; simp only at *; omega
theorem cross {a b : Int} {v u : Nat} (h : a ≤ b) (h2 : v ≤ u) : a * (u : Int) + b * (v : Int) ≤ a * (v : Int) + b * (u : Int) := by
  have : 0 ≤ (b - a) * ((u : Int) - (v : Int)) := Int.mul_nonneg (by omega) (by omega)
  rw [Int.sub_mul, Int.mul_sub, Int.mul_sub] at this
  omega
theorem bring_cst (a : Int) : ∀ (t : List As) (v : Nat), (∀ e ∈ t, a ≤ e.1.1) → a * ((bring v t).1 : Int) + cstP (bring v t).2 ≤ a * (v : Int) + cstP t
  | [], _, _ => Int.le_refl _
  | e :: t, v, h => by
    by_cases c : v < e.2
    · have ih := bring_cst a t e.2 (fun x hx => h x (by simp [hx]))
      have hc := cross (h e (by simp)) (Nat.le_of_lt c)
      rw [bring_y c]; unfold cstP at *
      rw [List.map_cons, List.map_cons, List.sum_cons, List.sum_cons]; simp only at *; omega
    · have ih := bring_cst a t v (fun x hx => h x (by simp [hx]))
      rw [bring_n c]; unfold cstP at *
      rw [List.map_cons, List.map_cons, List.sum_cons, List.sum_cons]; simp only at *; omega
theorem kr_mul (M v : Nat) (hv : v ≤ M) : ∀ t : List As, (∀ e ∈ t, e.2 ≤ v) → ∃ K, krP M t = 2 ^ (M - v) * K
  | [], _ => ⟨0, rfl⟩
  | e :: t, h => by
    obtain ⟨K, hK⟩ := kr_mul M v hv t (fun x hx => h x (by simp [hx]))
    have he := h e (by simp)
    refine ⟨2 ^ (v - e.2) + K, ?_⟩
    unfold krP at *
    rw [List.map_cons, List.sum_cons, hK, Nat.mul_add, ← Nat.pow_add, show M - v + (v - e.2) = M - e.2 by omega]
theorem least (M : Nat) : ∀ (n : Nat) (q : List As) (nx : Int), q.length = n → q ≠ [] → Row (q.map Prod.fst) nx → (∀ e ∈ q, e.2 ≤ M) → krP M q ≤ 2 ^ M → cst (D (q.map Prod.fst) nx) (q.map Prod.fst) ≤ cstP q := by
  intro n
  induction n with
  | zero => intro q nx hl hn; exact absurd (List.length_eq_zero_iff.1 hl) hn
  | succ n ih =>
    intro q nx hl _ h hM hk
    match q, hl, h, hM, hk with
    | [a], _, h, _, _ =>
      have h0 := h.w a.1 (by simp)
      simp only [We.cst, cstP, List.map_cons, List.map_nil, D_one, List.sum_cons, List.sum_nil]
      have := Int.mul_nonneg h0 (Int.natCast_nonneg a.2)
      simp; omega
    | a :: b :: t, hl, h, hM, hk =>
      have hso := List.pairwise_cons.1 h.s
      have hso2 := List.pairwise_cons.1 hso.2
      have ha0 := h.w a.1 (by simp)
      have hb0 := h.w b.1 (by simp)
      -- the greatest one to a
      have f1 := bring_fst (b :: t) a.2
      have g1 := bring_ge (b :: t) a.2
      have l1 := bring_le (b := M) (b :: t) a.2 (hM a (by simp)) (fun e he => hM e (by simp at he ⊢; exact .inr he))
      have k1 := bring_kr M (b :: t) a.2
      have c1 := bring_cst a.1.1 (b :: t) a.2 (fun e he => by
        have := hso.1 e.1 (by rcases List.mem_cons.1 he with h1 | h1 <;> simp [h1]; exact .inr ⟨e.2, h1⟩)
        unfold le at this; omega)
      generalize hv : (bring a.2 (b :: t)).1 = va at *
      generalize hq : (bring a.2 (b :: t)).2 = q1 at *
      match q1, f1, g1, l1, k1, c1 with
      | [], f1, _, _, _, _ => cases f1
      | b1 :: t1, f1, g1, l1, k1, c1 =>
        rw [List.map_cons, List.map_cons] at f1
        obtain ⟨fb, ft⟩ := List.cons_eq_cons.1 f1
        -- the next one to b
        have f2 := bring_fst t1 b1.2
        have g2 := bring_ge t1 b1.2
        have l2 := bring_le (b := va) t1 b1.2 (g1.2 b1 (by simp)) (fun e he => g1.2 e (by simp [he]))
        have k2 := bring_kr M t1 b1.2
        have c2 := bring_cst b.1.1 t1 b1.2 (fun e he => by
          have hm : e.1 ∈ t.map Prod.fst := by rw [← ft]; exact List.mem_map_of_mem he
          have := hso2.1 e.1 hm
          unfold le at this; omega)
        generalize (bring b1.2 t1).1 = vb at *
        generalize (bring b1.2 t1).2 = t2 at *
        have hvM : va ≤ M := l1.1
        have hvb : vb ≤ va := l2.1
        obtain ⟨K, hK⟩ := kr_mul M vb (by omega) t2 g2.2
        -- both as deep
        have hkA : krP M (a :: b :: t) = 2 ^ (M - va) + (2 ^ (M - vb) + krP M t2) := by
          have e1 : krP M (a :: b :: t) = 2 ^ (M - a.2) + krP M (b :: t) := by unfold krP; rw [List.map_cons, List.sum_cons]
          have e2 : krP M (b1 :: t1) = 2 ^ (M - b1.2) + krP M t1 := by unfold krP; rw [List.map_cons, List.sum_cons]
          rw [e1, ← k1, e2, ← k2]
        have hsp : (2 : Nat) ^ M = 2 ^ (M - vb) * 2 ^ vb := by rw [← Nat.pow_add, show M - vb + vb = M by omega]
        have hpos : 0 < 2 ^ (M - va) := Nat.two_pow_pos _
        have hgp : 0 < 2 ^ (M - vb) := Nat.two_pow_pos _
        have hlt : 2 ^ (M - vb) * (1 + K) < 2 ^ (M - vb) * 2 ^ vb := by rw [Nat.mul_add, Nat.mul_one, ← hK, ← hsp]; omega
        have hK2 : 1 + K < 2 ^ vb := Nat.lt_of_mul_lt_mul_left hlt
        have hvb1 : 1 ≤ vb := by
          rcases Nat.eq_zero_or_pos vb with e | e
          · rw [e] at hK2; simp at hK2
          · exact e
        have hkB : 2 ^ (M - vb) + 2 ^ (M - vb) + krP M t2 ≤ 2 ^ M := by
          have : 2 ^ (M - vb) * (1 + K + 1) ≤ 2 ^ (M - vb) * 2 ^ vb := Nat.mul_le_mul_left _ hK2
          rw [Nat.mul_add, Nat.mul_add, Nat.mul_one, ← hK, ← hsp] at this
          omega
        -- as one
        have f3 : t2.map Prod.fst = t.map Prod.fst := f2.trans ft
        let q' : List As := ins (fun e : As => e.1) ((a.1.1 + b.1.1, nx), vb - 1) t2
        have hq'p : q'.Perm (((a.1.1 + b.1.1, nx), vb - 1) :: t2) := ins_perm _ _ _
        have hq'm : q'.map Prod.fst = inr (a.1.1 + b.1.1, nx) (t.map Prod.fst) := by
          rw [← f3]; exact ins_map (fun e : As => e.1) _ t2
        have hrow : Row (a.1 :: b.1 :: t.map Prod.fst) nx := h
        have hl3 : t2.length = t.length := by have := congrArg List.length f3; simpa using this
        have := ih q' (nx + 1) (by rw [hq'p.length_eq]; simp at hl ⊢; omega) (fun e => by rw [e] at hq'p; exact absurd hq'p.length_eq (by simp)) (by rw [hq'm]; exact hrow.next)
          (fun e he => by
            rcases List.mem_cons.1 (hq'p.mem_iff.1 he) with h1 | h1
            · rw [h1]; simp only; omega
            · have := l2.2 e h1; omega)
          (by
            unfold krP at *
            rw [sum_perm (hq'p.map _), List.map_cons, List.sum_cons]
            have := pow_two' (M := M) (d := vb - 1) (by omega)
            rw [show vb - 1 + 1 = vb by omega] at this
            simp only; omega)
        rw [hq'm] at this
        have hD : cst (D ((a :: b :: t).map Prod.fst) nx) ((a :: b :: t).map Prod.fst) = _ := hrow.cst
        rw [hD]
        have hcq : cstP q' = (a.1.1 + b.1.1) * ((vb - 1 : Nat) : Int) + cstP t2 := by
          unfold cstP
          rw [sumI_perm (hq'p.map _), List.map_cons, List.sum_cons]
        rw [hcq, show ((vb - 1 : Nat) : Int) = (vb : Int) - 1 by omega, Int.mul_sub, Int.mul_one, Int.add_mul] at this
        have e1 : cstP (a :: b :: t) = a.1.1 * (a.2 : Int) + cstP (b :: t) := by unfold cstP; rw [List.map_cons, List.sum_cons]
        have e2 : cstP (b1 :: t1) = b1.1.1 * (b1.2 : Int) + cstP t1 := by unfold cstP; rw [List.map_cons, List.sum_cons]
        have e3 : a.1.1 * (vb : Int) ≤ a.1.1 * (va : Int) := Int.mul_le_mul_of_nonneg_left (by omega) ha0
        rw [fb] at e2
        rw [e1]
        rw [e2] at c1
        omega
/-- where none is greater than the two least together, depths are alike but for one -/
theorem Row.flat {a b : Tr} {l : List Tr} {nx : Int} (h : Row (a :: b :: l) nx) (hw : ∀ y ∈ a :: b :: l, y.1 ≤ a.1 + b.1) : ∀ y ∈ a :: b :: l, D (a :: b :: l) nx y.2 ≤ D (a :: b :: l) nx a.2 ∧ D (a :: b :: l) nx a.2 ≤ D (a :: b :: l) nx y.2 + 1 :=
  fun y hy => ⟨h.top hy, h.gap hy (hw y hy)⟩
theorem sum_le_const {l : List Nat} {c : Nat} (h : ∀ x ∈ l, x ≤ c) : l.sum ≤ l.length * c := by
  induction l with
  | nil => simp
  | cons x l ih =>
    rw [List.sum_cons, List.length_cons, Nat.add_mul, Nat.one_mul]
    have := h x (by simp)
    have := ih (fun y hy => h y (by simp [hy]))
    omega
theorem le_sum_const {l : List Nat} {c : Nat} (h : ∀ x ∈ l, c ≤ x) : l.length * c ≤ l.sum := by
  induction l with
  | nil => simp
  | cons x l ih =>
    rw [List.sum_cons, List.length_cons, Nat.add_mul, Nat.one_mul]
    have := h x (by simp)
    have := ih (fun y hy => h y (by simp [hy]))
    omega
/-- lengths that are alike but for one: how many there are tells the greatest -/
theorem deep_le {M e : Nat} {f : Int → Nat} {l : List Tr} (hk : kr M f l = 2 ^ M) (h : ∀ p ∈ l, e ≤ f p.2 + 1) (he : 1 ≤ e) (hM : e ≤ M + 1) : 2 ^ (e - 1) ≤ l.length := by
  have h1 : kr M f l ≤ l.length * 2 ^ (M - (e - 1)) := by
    unfold kr
    have := sum_le_const (l := l.map (fun p => 2 ^ (M - f p.2))) (c := 2 ^ (M - (e - 1))) (fun x hx => by
      obtain ⟨p, hp, rfl⟩ := List.mem_map.1 hx
      have := h p hp
      exact Nat.pow_le_pow_right (by decide) (by omega))
    simpa using this
  rw [hk] at h1
  have h2 : 2 ^ M = 2 ^ (e - 1) * 2 ^ (M - (e - 1)) := by rw [← Nat.pow_add, show e - 1 + (M - (e - 1)) = M by omega]
  rw [h2] at h1
  exact Nat.le_of_mul_le_mul_right h1 (Nat.two_pow_pos _)
theorem deep_lt {M e : Nat} {f : Int → Nat} {l : List Tr} (hk : kr M f l = 2 ^ M) (h : ∀ p ∈ l, e ≤ f p.2 + 1) (he : 1 ≤ e) (hM : e ≤ M) {p : Tr} (hp : p ∈ l) (hpe : f p.2 = e) : 2 ^ (e - 1) < l.length := by
  have hle : ∀ m : List Tr, (∀ q ∈ m, q ∈ l) → kr M f m ≤ m.length * 2 ^ (M - (e - 1)) := fun m hm => by
    unfold kr
    have := sum_le_const (l := m.map (fun p => 2 ^ (M - f p.2))) (c := 2 ^ (M - (e - 1))) (fun x hx => by
      obtain ⟨q, hq, rfl⟩ := List.mem_map.1 hx
      have := h q (hm q hq)
      exact Nat.pow_le_pow_right (by decide) (by omega))
    simpa using this
  obtain ⟨s, t, rfl⟩ := List.append_of_mem hp
  have hks : kr M f (s ++ p :: t) = kr M f s + (2 ^ (M - f p.2) + kr M f t) := by unfold kr; rw [List.map_append, List.sum_append, List.map_cons, List.sum_cons]
  have hs := hle s (fun q hq => by simp [hq])
  have ht := hle t (fun q hq => by simp [hq])
  have hp2 := pow_two' (M := M) (d := e - 1) (by omega)
  rw [show e - 1 + 1 = e by omega] at hp2
  have hg := Nat.two_pow_pos (M - e)
  have h2 : 2 ^ M = 2 ^ (e - 1) * 2 ^ (M - (e - 1)) := by rw [← Nat.pow_add, show e - 1 + (M - (e - 1)) = M by omega]
  rw [hk, hpe, h2] at hks
  have h3 : 2 ^ (e - 1) * 2 ^ (M - (e - 1)) < (s ++ p :: t).length * 2 ^ (M - (e - 1)) := by
    rw [hks, List.length_append, List.length_cons, Nat.add_mul, Nat.add_mul]
    omega
  exact Nat.lt_of_mul_lt_mul_right h3
theorem deep_ge {M e : Nat} {f : Int → Nat} {l : List Tr} (hk : kr M f l = 2 ^ M) (h : ∀ p ∈ l, f p.2 ≤ e) (hM : e ≤ M) : l.length ≤ 2 ^ e ∧ (l.length = 2 ^ e → ∀ p ∈ l, f p.2 = e) := by
  have hge : ∀ m : List Tr, (∀ p ∈ m, p ∈ l) → m.length * 2 ^ (M - e) ≤ kr M f m := fun m hm => by
    unfold kr
    have := le_sum_const (l := m.map (fun p => 2 ^ (M - f p.2))) (c := 2 ^ (M - e)) (fun x hx => by
      obtain ⟨p, hp, rfl⟩ := List.mem_map.1 hx
      have := h p (hm p hp)
      exact Nat.pow_le_pow_right (by decide) (by omega))
    simpa using this
  have h2 : 2 ^ M = 2 ^ e * 2 ^ (M - e) := by rw [← Nat.pow_add, show e + (M - e) = M by omega]
  have h1 := hge l (fun _ h => h)
  rw [hk, h2] at h1
  refine ⟨Nat.le_of_mul_le_mul_right h1 (Nat.two_pow_pos _), fun heq p hp => ?_⟩
  by_cases c : f p.2 = e
  · exact c
  · exfalso
    have hlt : f p.2 < e := by have := h p hp; omega
    obtain ⟨s, t, rfl⟩ := List.append_of_mem hp
    have hks : kr M f (s ++ p :: t) = kr M f s + (2 ^ (M - f p.2) + kr M f t) := by unfold kr; rw [List.map_append, List.sum_append, List.map_cons, List.sum_cons]
    have hs := hge s (fun q hq => by simp [hq])
    have ht := hge t (fun q hq => by simp [hq])
    have hp2 : 2 ^ (M - e) + 2 ^ (M - e) ≤ 2 ^ (M - f p.2) := by
      have := pow_two' (M := M) (d := e - 1) (by omega)
      rw [show e - 1 + 1 = e by omega] at this
      rw [this]; exact Nat.pow_le_pow_right (by decide) (by omega)
    have hg := Nat.two_pow_pos (M - e)
    rw [hk, h2, ← heq, List.length_append, List.length_cons, Nat.add_mul, Nat.add_mul] at hks
    omega
end We
end Go.Proofs.Ytdcenocljnlipaa
