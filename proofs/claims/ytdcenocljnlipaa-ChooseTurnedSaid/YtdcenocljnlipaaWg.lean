/-
  MATHS of stage 10: lengths, round by round.
-/
import Derived.Test.YtdcenocljnlipaaWf
import Derived.Test.YtdcenocljnlipaaOf
namespace Go.Proofs.Ytdcenocljnlipaa
open Go.RowKit
namespace Wg
open Ab Wa Wb Wm Wc We Wf Of
theorem Row.deep1 : ∀ (n : Nat) (l : List Tr) (nx : Int), l.length = n → 2 ≤ n → Row l nx → ∀ x ∈ l, 1 ≤ D l nx x.2 := by
  intro n
  induction n with
  | zero => intro l nx _ h; omega
  | succ n ih =>
    intro l nx hl h2 h x hx
    match l, hl, h with
    | [a], hl, _ => simp at hl; omega
    | a :: b :: l, hl, h =>
      rcases List.mem_cons.1 hx with e | e
      · rw [e, Row.Da]; omega
      · rcases List.mem_cons.1 e with e | e
        · rw [e, Row.Db]; omega
        · rw [h.Dl e]
          have hl2 : (inr (a.1 + b.1, nx) l).length = l.length + 1 := ins_len _ _ _
          have hpos : 0 < l.length := List.length_pos_of_mem e
          exact ih _ _ (by simp at hl; omega) (by simp at hl; omega) h.next x ((ins_perm id _ l).mem_iff.2 (List.mem_cons_of_mem _ e))
def Nn (w : List Int) : Prop := ∀ x ∈ w, 0 ≤ x
def Pos (w : List Int) : Prop := ∀ x ∈ w, 1 ≤ x
theorem Pos.nn {w : List Int} (h : Pos w) : Nn w := fun x hx => by have := h x hx; omega
theorem getD_mem' {w : List Int} {i : Nat} (hi : i < w.length) : w.getD i 0 ∈ w := by
  rw [List.getD_eq_getElem?_getD, List.getElem?_eq_getElem hi]; exact List.getElem_mem hi
theorem Dw_1 {w : List Int} (hw : Nn w) (h2 : 2 ≤ w.length) {i : Nat} (hi : i < w.length) : 1 ≤ Dw w i := Row.deep1 _ _ _ (S0_len w) h2 (S0_row hw) _ (S0_mem hi)
theorem Dw_n {w : List Int} (hw : Nn w) {i : Nat} (hi : i < w.length) : Dw w i + 1 ≤ w.length := by
  have := Row.bound _ _ _ rfl (S0_row hw) _ (S0_mem hi)
  rw [S0_len] at this; exact this
theorem Dw_order {w : List Int} (hw : Nn w) {i k : Nat} (hi : i < w.length) (hk : k < w.length) (h : w.getD k 0 < w.getD i 0) : Dw w i ≤ Dw w k := (S0_row hw).order (S0_mem hk) (S0_mem hi) h
theorem Dw_alike {w : List Int} (hw : Nn w) {i k : Nat} (hi : i < w.length) (hk : k < w.length) (h : w.getD i 0 = w.getD k 0) : Dw w i ≤ Dw w k + 1 := Row.alike _ _ _ rfl (S0_row hw) _ (S0_mem hi) _ (S0_mem hk) h
theorem Dw_kraft {w : List Int} (hw : Nn w) (h1 : 1 ≤ w.length) {M : Nat} (hM : w.length ≤ M + 1) : kr M (D (S w 0) w.length) (S w 0) = 2 ^ M :=
  Row.kraft M _ _ _ rfl (fun e => by have := S0_len w; rw [e] at this; simp at this; omega) (S0_row hw) (by rw [S0_len]; exact hM)
/-- as much of it as the first k use up -/
def kS (M : Nat) (f : Nat → Nat) : Nat → Nat
  | 0 => 0
  | k + 1 => kS M f k + 2 ^ (M - f k)
theorem kr_r0 (M : Nat) (w : List Int) (f : Int → Nat) : ∀ k, kr M f (r0 w k) = kS M (fun i => f (i : Int)) k
  | 0 => rfl
  | k + 1 => by
    have := kr_r0 M w f k
    unfold kr at this ⊢
    rw [r0, List.map_append, List.sum_append, this, kS]; simp
theorem Dw_kS {w : List Int} (hw : Nn w) (h1 : 1 ≤ w.length) {M : Nat} (hM : w.length ≤ M + 1) : kS M (Dw w) w.length = 2 ^ M := by
  have := Dw_kraft hw h1 hM
  unfold kr at this
  have hp : (S w 0).Perm (r0 w w.length) := srt_perm _
  rw [sum_perm (hp.map _)] at this
  have h2 := kr_r0 M w (D (S w 0) w.length) w.length
  unfold kr at h2
  rw [h2] at this
  exact this
theorem Dw_flat {w : List Int} (hw : Nn w) (h2 : 2 ≤ w.length) (hf : ∀ x ∈ w, ∀ y ∈ w, ∀ z ∈ w, x ≤ y + z) : ∃ e, 1 ≤ e ∧ (∀ i, i < w.length → Dw w i ≤ e ∧ e ≤ Dw w i + 1) ∧ 2 ^ (e - 1) < w.length ∧ w.length ≤ 2 ^ e ∧ (w.length = 2 ^ e → ∀ i, i < w.length → Dw w i = e) := by
  have hr := S0_row hw
  obtain ⟨a, b, t, e⟩ := two_of (show 2 ≤ (S w 0).length by rw [S0_len]; exact h2)
  have hin : ∀ p ∈ S w 0, p.1 ∈ w := fun p hp => by
    obtain ⟨i, hi, rfl⟩ := S0_at hp
    exact getD_mem' hi
  have hk := Dw_kraft hw (by omega) (M := w.length) (by omega)
  have hlen := S0_len w
  have hbd := Row.bound _ _ _ rfl hr
  have h1 := Row.deep1 _ _ _ hlen h2 hr
  have hwl : ∀ i, i < w.length → ((w.getD i 0, (i : Int)) : Tr) ∈ S w 0 := fun i hi => S0_mem hi
  unfold Dw
  generalize S w 0 = T at *
  subst e
  have hfl := hr.flat (fun y hy => hf _ (hin y hy) _ (hin a (by simp)) _ (hin b (by simp)))
  have ha := h1 a (by simp)
  have hb := hbd a (by simp)
  rw [hlen] at hb
  have hge := deep_ge hk (fun p hp => (hfl p hp).1) (by omega)
  refine ⟨D (a :: b :: t) w.length a.2, ha, fun i hi => hfl _ (hwl i hi), ?_, ?_, fun hl i hi => ?_⟩
  · have := deep_lt hk (fun p hp => (hfl p hp).2) ha (by omega) (show a ∈ a :: b :: t by simp) rfl
    rw [hlen] at this; exact this
  · have := hge.1
    rw [hlen] at this; exact this
  · exact hge.2 (by rw [hlen]; exact hl) _ (hwl i hi)
/-- no lengths that use up no more cost less -/
def cS (w : List Int) (f : Nat → Nat) : Nat → Int
  | 0 => 0
  | k + 1 => cS w f k + w.getD k 0 * (f k : Int)
theorem cst_r0 (w : List Int) (f : Int → Nat) : ∀ k, cst f (r0 w k) = cS w (fun i => f (i : Int)) k
  | 0 => rfl
  | k + 1 => by
    have := cst_r0 w f k
    unfold cst at this ⊢
    rw [r0, List.map_append, List.sum_append, this, cS]; simp
theorem Dw_least {w : List Int} (hw : Nn w) (h1 : 1 ≤ w.length) {M : Nat} {f : Nat → Nat} (hM : ∀ i, i < w.length → f i ≤ M) (hk : kS M f w.length ≤ 2 ^ M) : cS w (Dw w) w.length ≤ cS w f w.length := by
  let g : Int → Nat := fun p => f p.toNat
  let q : List As := (S w 0).map (fun p => (p, g p.2))
  have hq : q.map Prod.fst = S w 0 := by simp [q, Function.comp_def]
  have hsg : (fun i : Nat => g (i : Int)) = f := by funext i; simp [g]
  have hr := S0_row hw
  have hp : (S w 0).Perm (r0 w w.length) := srt_perm _
  have := least M q.length q w.length rfl (fun e => by have h := S0_len w; rw [← hq, e] at h; simp at h; omega) (by rw [hq]; exact hr) (fun e he => by
      obtain ⟨p, hp, rfl⟩ := List.mem_map.1 he
      obtain ⟨i, hi, rfl⟩ := S0_at hp
      have := hM i hi
      simpa [g] using this) (by
      have e1 : krP M q = kr M g (S w 0) := by simp [krP, kr, q, Function.comp_def]
      rw [e1]
      unfold kr
      rw [sum_perm (hp.map _)]
      have h2 := kr_r0 M w g w.length
      unfold kr at h2
      rw [h2, hsg]; exact hk)
  rw [hq] at this
  have e1 : cstP q = cst g (S w 0) := by simp [cstP, cst, q, Function.comp_def]
  rw [e1] at this
  unfold cst at this
  rw [sumI_perm (hp.map _), sumI_perm (hp.map _)] at this
  have h2 := cst_r0 w g w.length
  have h3 := cst_r0 w (D (S w 0) w.length) w.length
  unfold cst at h2 h3
  rw [h2, h3, hsg] at this
  exact this
/-- all the weights together -/
theorem ws_r0 (w : List Int) : ∀ k, k ≤ w.length → ws (r0 w k) = (w.take k).sum
  | 0, _ => rfl
  | k + 1, h => by
    rw [r0, ws_snoc, ws_r0 w k (by omega), List.take_succ_eq_append_getElem (by omega), List.sum_append, List.getD_eq_getElem?_getD, List.getElem?_eq_getElem (by omega)]; simp
theorem ws_jq (w : List Int) : ws (jq w w.length) = w.sum := by
  rw [ws_perm (jq_r0 w w.length), ws_r0 w _ (Nat.le_refl _), List.take_length]
theorem sum_bd {w : List Int} {b : Int} (h : ∀ x ∈ w, x ≤ b) : w.sum ≤ w.length * b := by
  induction w with
  | nil => simp
  | cons x w ih =>
    have := ih (fun y hy => h y (by simp [hy]))
    have := h x (by simp)
    rw [List.sum_cons, List.length_cons, show (((w.length + 1 : Nat) : Int)) = (w.length : Int) + 1 by omega, Int.add_mul, Int.one_mul]; omega
theorem sum_ge {w : List Int} (h : Pos w) : (w.length : Int) ≤ w.sum := by
  induction w with
  | nil => simp
  | cons x w ih =>
    have := ih (fun y hy => h y (by simp [hy]))
    have := h x (by simp)
    rw [List.sum_cons, List.length_cons]; omega
/-- more alike -/
def halve (w : List Int) : List Int := w.map (fun x => x / 2 + 1)
theorem halve_len (w : List Int) : (halve w).length = w.length := List.length_map _
theorem halve_pos {w : List Int} (h : Pos w) : Pos (halve w) := fun x hx => by
  obtain ⟨y, hy, rfl⟩ := List.mem_map.1 hx
  have := h y hy; omega
theorem halve_le {w : List Int} {b : Int} (h : ∀ x ∈ w, x ≤ b) (hb : 2 ≤ b) : ∀ x ∈ halve w, x ≤ b := fun x hx => by
  obtain ⟨y, hy, rfl⟩ := List.mem_map.1 hx
  have := h y hy; omega
theorem halve_sum {w : List Int} (h : Pos w) : (halve w).sum ≤ w.sum ∧ ((∃ x ∈ w, 3 ≤ x) → (halve w).sum < w.sum) := by
  induction w with
  | nil => exact ⟨Int.le_refl _, fun ⟨x, hx, _⟩ => by cases hx⟩
  | cons x w ih =>
    obtain ⟨i1, i2⟩ := ih (fun y hy => h y (by simp [hy]))
    have h0 := h x (by simp)
    have e : (halve (x :: w)).sum = (x / 2 + 1) + (halve w).sum := by unfold halve; rw [List.map_cons, List.sum_cons]
    rw [e, List.sum_cons]
    refine ⟨by omega, fun ⟨y, hy, h3⟩ => ?_⟩
    rcases List.mem_cons.1 hy with e2 | e2
    · subst e2; omega
    · have := i2 ⟨y, e2, h3⟩; omega
theorem mx_mem {l : List Int} : ∀ i, 1 ≤ i → i ≤ l.length → mxA l i ∈ l
  | 0, h, _ => by omega
  | 1, _, h => by rw [mxA_1]; exact getD_mem' (w := l) (i := 0) (by omega)
  | i + 2, _, h => by
    rw [← mxA_s (l := l) (i := i + 1) (by omega)]
    have ih := mx_mem (l := l) (i + 1) (by omega) (by omega)
    by_cases c : mxA l (i + 1) ≤ l.getD (i + 1) 0
    · rw [Int.max_eq_right c]; exact getD_mem' (w := l) (i := i + 1) (by omega)
    · rw [Int.max_eq_left (by omega)]; exact ih
theorem joinV_mem {w : List Int} (hw : Nn w) (h2 : 2 ≤ w.length) {x : Int} (hx : x ∈ joinV w) : ∃ i, i < w.length ∧ x = (Dw w i : Int) := by
  obtain ⟨i, hi, rfl⟩ := List.mem_iff_getElem.1 hx
  rw [joinV_len h2] at hi
  refine ⟨i, hi, ?_⟩
  rw [← joinV_at hw h2 hi, List.getD_eq_getElem?_getD, List.getElem?_eq_getElem (by rw [joinV_len h2]; exact hi)]; rfl
theorem mx_at {w : List Int} (hw : Nn w) (h2 : 2 ≤ w.length) : ∃ i, i < w.length ∧ mxL (joinV w) = (Dw w i : Int) :=
  joinV_mem hw h2 (mx_mem _ (by rw [joinV_len h2]; omega) (Nat.le_refl _))
theorem mx_all {w : List Int} (hw : Nn w) (h2 : 2 ≤ w.length) {i : Nat} (hi : i < w.length) : (Dw w i : Int) ≤ mxL (joinV w) := by
  rw [← joinV_at hw h2 hi]
  exact mxA_ge _ _ i (by rw [joinV_len h2]; exact hi) (by rw [joinV_len h2]; exact hi)
/-- who has more than nine has a weight of three at least -/
theorem deep_three {w : List Int} (hw : Pos w) (h2 : 2 ≤ w.length) (hl : w.length ≤ 258) {most : Int} (hm : 9 ≤ most) (h : most < mxL (joinV w)) : ∃ x ∈ w, 3 ≤ x := by
  refine Classical.byContradiction fun hn => ?_
  have hle : ∀ x ∈ w, x ≤ 2 := fun x hx => by
    by_cases c : 3 ≤ x
    · exact absurd ⟨x, hx, c⟩ hn
    · omega
  obtain ⟨e, h1, h3, h4, _⟩ := Dw_flat hw.nn h2 (fun x hx y hy z hz => by have := hle x hx; have := hw y hy; have := hw z hz; omega)
  obtain ⟨i, hi, e2⟩ := mx_at hw.nn h2
  have := (h3 i hi).1
  have h5 : 9 ≤ e - 1 := by omega
  have h6 : 2 ^ 9 ≤ 2 ^ (e - 1) := Nat.pow_le_pow_right (by decide) h5
  have : (2 : Nat) ^ 9 = 512 := by decide
  omega
def lenR : Nat → List Int → Int → List Int
  | 0, w, _ => joinV w
  | f + 1, w, most => if most < mxL (joinV w) then lenR f (halve w) most else joinV w
theorem lenR_n {f : Nat} {w : List Int} {most : Int} (h : ¬ most < mxL (joinV w)) : lenR f w most = joinV w := by
  cases f with
  | zero => rfl
  | succ f => rw [lenR, if_neg h]
theorem lenR_y {f : Nat} {w : List Int} {most : Int} (h : most < mxL (joinV w)) : lenR (f + 1) w most = lenR f (halve w) most := by rw [lenR, if_pos h]
theorem lenR_is : ∀ (f : Nat) (w : List Int) (most : Int), Pos w → 2 ≤ w.length → w.length ≤ 258 → 9 ≤ most → w.sum ≤ f →
    ∃ v, Pos v ∧ v.length = w.length ∧ lenR f w most = joinV v ∧ mxL (joinV v) ≤ most ∧ ∀ i k, i < w.length → k < w.length → w.getD i 0 = w.getD k 0 → v.getD i 0 = v.getD k 0 := by
  intro f
  induction f with
  | zero => intro w most hw h2 _ _ hs; have := sum_ge hw; omega
  | succ f ih =>
    intro w most hw h2 hl hm hs
    by_cases c : most < mxL (joinV w)
    · rw [lenR_y c]
      have h3 := (halve_sum hw).2 (deep_three hw h2 hl hm c)
      have hhl := halve_len w
      obtain ⟨v, v1, v2, v3, v4, v5⟩ := ih (halve w) most (halve_pos hw) (by omega) (by omega) hm (by omega)
      refine ⟨v, v1, by omega, v3, v4, fun i k hi hk he => v5 i k (by omega) (by omega) ?_⟩
      unfold halve
      rw [List.getD_eq_getElem?_getD, List.getD_eq_getElem?_getD, List.getElem?_map, List.getElem?_map, List.getElem?_eq_getElem hi, List.getElem?_eq_getElem hk]
      rw [List.getD_eq_getElem?_getD, List.getD_eq_getElem?_getD, List.getElem?_eq_getElem hi, List.getElem?_eq_getElem hk] at he
      simp only [Option.map_some, Option.getD_some] at he ⊢
      rw [he]
    · rw [lenR_n c]
      exact ⟨w, hw, rfl, rfl, by omega, fun _ _ _ _ h => h⟩
/-- each 0 taken as 1 -/
def ones (w : List Int) : List Int := w.map (fun x => max x 1)
theorem ones_len (w : List Int) : (ones w).length = w.length := List.length_map _
theorem ones_pos (w : List Int) : Pos (ones w) := fun x hx => by
  obtain ⟨y, _, rfl⟩ := List.mem_map.1 hx
  omega
theorem ones_at {w : List Int} {i : Nat} (hi : i < w.length) : (ones w).getD i 0 = max (w.getD i 0) 1 := by
  unfold ones
  rw [List.getD_eq_getElem?_getD, List.getD_eq_getElem?_getD, List.getElem?_map, List.getElem?_eq_getElem hi]; rfl
def lenW (w : List Int) (most : Int) : List Int := lenR (ones w).sum.toNat (ones w) most
theorem lenW_is {w : List Int} {most : Int} (h2 : 2 ≤ w.length) (hl : w.length ≤ 258) (hm : 9 ≤ most) :
    ∃ v, Pos v ∧ v.length = w.length ∧ lenW w most = joinV v ∧ mxL (joinV v) ≤ most ∧ ∀ i k, i < w.length → k < w.length → max (w.getD i 0) 1 = max (w.getD k 0) 1 → v.getD i 0 = v.getD k 0 := by
  have hol := ones_len w
  have hg := sum_ge (ones_pos w)
  obtain ⟨v, v1, v2, v3, v4, v5⟩ := lenR_is (ones w).sum.toNat (ones w) most (ones_pos w) (by omega) (by omega) hm (by omega)
  exact ⟨v, v1, by omega, v3, v4, fun i k hi hk he => v5 i k (by omega) (by omega) (by rw [ones_at hi, ones_at hk]; exact he)⟩
theorem lenW_0 {w : List Int} {most : Int} (h : mxL (joinV (ones w)) ≤ most) : lenW w most = joinV (ones w) := lenR_n (by omega)
theorem lenW_short {w : List Int} {most : Int} (h2 : 2 ≤ w.length) (h : (w.length : Int) ≤ most + 1) : lenW w most = joinV (ones w) := by
  refine lenW_0 ?_
  have hol := ones_len w
  obtain ⟨i, hi, e⟩ := mx_at (ones_pos w).nn (by omega)
  have := Dw_n (ones_pos w).nn hi
  omega
end Wg
end Go.Proofs.Ytdcenocljnlipaa
