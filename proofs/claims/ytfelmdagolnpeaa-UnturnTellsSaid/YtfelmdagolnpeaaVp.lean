/-
  MATHEMATICS of stage 14: Vector has each place once, where it goes bytes are in order; rounds.
-/
import Derived.Test.YtfelmdagolnpeaaVo
import Derived.Test.YtfelmdagolnpeaaAbp
namespace Go.Proofs.Ytfelmdagolnpeaa
open Go.RowKit
namespace Vp
open Ab Vm Vd Vn Va Vb Ve Vo
/-! the places of one byte -/
theorem of_mem (s : ByteArray) (c : Nat) : ∀ i r, r < (ofB s c i).length → 0 ≤ (ofB s c i).getD r 0 ∧ (ofB s c i).getD r 0 < i ∧ byteA s ((ofB s c i).getD r 0).toNat = c
  | 0, r, h => by rw [of_0] at h; simp at h
  | i + 1, r, h => by
    rw [ofB] at h ⊢
    split at h
    · rename_i hb
      rw [if_pos hb]
      rw [List.length_append] at h
      simp only [List.length_cons, List.length_nil] at h
      by_cases e : r = (ofB s c i).length
      · have := getD_app_r (ofB s c i) [(i : Int)] 0
        rw [Nat.add_zero, ← e] at this
        rw [this]
        refine ⟨Int.natCast_nonneg i, ?_, hb⟩
        show (i : Int) < ((i + 1 : Nat) : Int)
        omega
      · have ih := of_mem s c i r (by omega)
        rw [getD_app_l _ _ _ (by omega)]
        refine ⟨ih.1, ?_, ih.2.2⟩
        omega
    · rename_i hb
      rw [if_neg hb]
      have ih := of_mem s c i r h
      refine ⟨ih.1, ?_, ih.2.2⟩
      omega
theorem of_up (s : ByteArray) (c : Nat) : ∀ i r q, r < q → q < (ofB s c i).length → (ofB s c i).getD r 0 < (ofB s c i).getD q 0
  | 0, r, q, _, h => by rw [of_0] at h; simp at h
  | i + 1, r, q, hrq, h => by
    rw [ofB] at h ⊢
    split at h
    · rename_i hb
      rw [if_pos hb]
      rw [List.length_append] at h
      simp only [List.length_cons, List.length_nil] at h
      have hr := of_mem s c i r (by omega)
      rw [getD_app_l _ _ r (by omega)]
      by_cases e : q = (ofB s c i).length
      · have := getD_app_r (ofB s c i) [(i : Int)] 0
        rw [Nat.add_zero, ← e] at this
        rw [this]
        exact hr.2.1
      · rw [getD_app_l _ _ q (by omega)]
        exact of_up s c i r q hrq (by omega)
    · rename_i hb
      rw [if_neg hb]
      exact of_up s c i r q hrq h
theorem vec_at (s : ByteArray) (p : Nat) (hp : p < s.size) : ∃ j r, j < 256 ∧ r < (ofB s j s.size).length ∧ p = (sumL (cntL s s.size) j).toNat + r ∧ (vecL s).getD p 0 = (ofB s j s.size).getD r 0 := by
  obtain ⟨j, hj, r, hr, e⟩ := locate s 256 p (by rw [sum_cnt]; omega)
  exact ⟨j, r, hj, hr, e, by rw [e]; exact fill_inv s s.size (Nat.le_refl _) j hj r hr⟩
theorem vec_in (s : ByteArray) (p : Nat) (hp : p < s.size) : 0 ≤ (vecL s).getD p 0 ∧ (vecL s).getD p 0 < s.size := by
  have := vec_vals s p
  exact ⟨this.1, this.2 (by omega)⟩
/-- where it goes, bytes are in order; of one byte the lesser place first -/
theorem vec_up (s : ByteArray) (p q : Nat) (hpq : p < q) (hq : q < s.size) : byteA s ((vecL s).getD p 0).toNat < byteA s ((vecL s).getD q 0).toNat ∨ (byteA s ((vecL s).getD p 0).toNat = byteA s ((vecL s).getD q 0).toNat ∧ (vecL s).getD p 0 < (vecL s).getD q 0) := by
  obtain ⟨j, r, hj, hr, e, ev⟩ := vec_at s p (by omega)
  obtain ⟨j', r', hj', hr', e', ev'⟩ := vec_at s q hq
  have h1 := of_mem s j s.size r hr
  have h2 := of_mem s j' s.size r' hr'
  rw [ev, ev', h1.2.2, h2.2.2]
  rcases Nat.lt_trichotomy j j' with h | h | h
  · exact .inl h
  · subst h
    exact .inr ⟨rfl, of_up s j s.size r r' (by omega) hr'⟩
  · have := sum_lt s h
    have h3 := sN s j; have h4 := sN s j'
    have h5 := of_cnt s j' s.size
    omega
theorem vec_inj (s : ByteArray) (p q : Nat) (hp : p < s.size) (hq : q < s.size) (h : (vecL s).getD p 0 = (vecL s).getD q 0) : p = q := by
  rcases Nat.lt_trichotomy p q with h1 | h1 | h1
  · have := vec_up s p q h1 hq
    rw [h] at this; omega
  · exact h1
  · have := vec_up s q p h1 hp
    rw [h] at this; omega
/-! rounds of places -/
def nx (v : List Int) (x : Nat) : Nat := (v.getD x 0).toNat
def it (v : List Int) (x : Nat) : Nat → Nat
  | 0 => x
  | k + 1 => nx v (it v x k)
  termination_by k => k
theorem it_0 (v : List Int) (x : Nat) : it v x 0 = x := by rw [it]
theorem it_1 (v : List Int) (x k : Nat) : it v x (k + 1) = nx v (it v x k) := by rw [it]
theorem it_add (v : List Int) (x a : Nat) : ∀ b, it v x (a + b) = it v (it v x a) b
  | 0 => by rw [Nat.add_zero, it_0]
  | b + 1 => by rw [← Nat.add_assoc, it_1, it_1, it_add v x a b]
theorem it_per {v : List Int} {x p : Nat} (hp : it v x p = x) : ∀ k, it v x (k * p) = x
  | 0 => by rw [Nat.zero_mul, it_0]
  | k + 1 => by rw [Nat.succ_mul, it_add, it_per hp k, hp]
structure Pm (v : List Int) : Prop where
  rng : ∀ x, x < v.length → 0 ≤ v.getD x 0 ∧ v.getD x 0 < v.length
  inj : ∀ x y, x < v.length → y < v.length → v.getD x 0 = v.getD y 0 → x = y
theorem pm_vec (s : ByteArray) : Pm (vecL s) where
  rng := fun x hx => by rw [vec_len] at hx ⊢; exact vec_in s x hx
  inj := fun x y hx hy h => by rw [vec_len] at hx hy; exact vec_inj s x y hx hy h
section
variable {v : List Int} (h : Pm v)
include h
theorem nx_lt {x : Nat} (hx : x < v.length) : nx v x < v.length := by have := h.rng x hx; unfold nx; omega
theorem nx_inj {x y : Nat} (hx : x < v.length) (hy : y < v.length) (e : nx v x = nx v y) : x = y := by
  have h1 := h.rng x hx; have h2 := h.rng y hy
  exact h.inj x y hx hy (by unfold nx at e; omega)
theorem it_lt {x : Nat} (hx : x < v.length) : ∀ k, it v x k < v.length
  | 0 => by rw [it_0]; exact hx
  | k + 1 => by rw [it_1]; exact nx_lt h (it_lt hx k)
theorem it_inj {x y : Nat} (hx : x < v.length) (hy : y < v.length) : ∀ k, it v x k = it v y k → x = y
  | 0, e => by rw [it_0, it_0] at e; exact e
  | k + 1, e => by rw [it_1, it_1] at e; exact it_inj hx hy k (nx_inj h (it_lt h hx k) (it_lt h hy k) e)
/-- it comes back -/
theorem back_to {x : Nat} (hx : x < v.length) : ∃ m, 1 ≤ m ∧ it v x m = x := by
  refine Classical.byContradiction fun hc => ?_
  have hne : ∀ m, 1 ≤ m → it v x m ≠ x := fun m h1 h2 => hc ⟨m, h1, h2⟩
  have hd : ∀ a b, a < b → it v x a ≠ it v x b := fun a b hab e => by
    have e2 : it v x b = it v (it v x (b - a)) a := by rw [← it_add, show b - a + a = b by omega]
    rw [e2] at e
    exact hne (b - a) (by omega) (it_inj h hx (it_lt h hx _) a e).symm
  let mk : Nat → List Bool := fun t => (List.range t).foldl (fun l i => l.set (it v x i) true) (List.replicate v.length false)
  have hmk : ∀ t, mk (t + 1) = (mk t).set (it v x t) true := fun t => by simp [mk, List.range_succ]
  have hlen : ∀ t, (mk t).length = v.length := by
    intro t
    induction t with
    | zero => simp [mk]
    | succ t ih => rw [hmk, List.length_set, ih]
  have hat : ∀ t j, (mk t).getD j false = true → ∃ i, i < t ∧ it v x i = j := by
    intro t
    induction t with
    | zero => intro j hj; simp [mk, List.getD_eq_getElem?_getD, List.getElem?_replicate] at hj; split at hj <;> simp at hj
    | succ t ih =>
      intro j hj
      rw [hmk] at hj
      by_cases e : it v x t = j
      · exact ⟨t, by omega, e⟩
      · rw [List.getD_eq_getElem?_getD, List.getElem?_set_ne e, ← List.getD_eq_getElem?_getD] at hj
        obtain ⟨i, hi, e2⟩ := ih j hj
        exact ⟨i, by omega, e2⟩
  have hcount : ∀ t, (mk t).count true = t := by
    intro t
    induction t with
    | zero => simp [mk, List.count_replicate]
    | succ t ih =>
      have hlt : it v x t < (mk t).length := by rw [hlen]; exact it_lt h hx t
      have hf : (mk t)[it v x t] = false := by
        cases hb : (mk t)[it v x t] with
        | false => rfl
        | true =>
          obtain ⟨i, hi, e⟩ := hat t (it v x t) (by rw [getD_lt _ _ _ hlt, hb])
          exact absurd e (hd i t hi)
      rw [hmk, List.count_set hlt, ih, hf]
      simp
  have h1 := hcount (v.length + 1)
  have h2 := List.count_le_length (a := true) (l := mk (v.length + 1))
  rw [hlen] at h2
  omega
theorem it_sym {x y k : Nat} (hx : x < v.length) (e : it v x k = y) : ∃ m, it v y m = x := by
  obtain ⟨p, hp1, hp⟩ := back_to h hx
  refine ⟨k * p - k, ?_⟩
  have : k ≤ k * p := Nat.le_mul_of_pos_right k (by omega)
  rw [← e, ← it_add, show k + (k * p - k) = k * p by omega, it_per hp k]
end
/-- the first place of its round -/
def isMin (v : List Int) (i : Nat) : Prop := ∀ k, i ≤ it v i k
open Classical in
noncomputable def cntM (v : List Int) : Nat → Int
  | 0 => 0
  | i + 1 => if isMin v i then cntM v i + 1 else cntM v i
  termination_by i => i
theorem cnt_0 (v : List Int) : cntM v 0 = 0 := by rw [cntM]
theorem cnt_y {v : List Int} {i : Nat} (h : isMin v i) : cntM v (i + 1) = cntM v i + 1 := by rw [cntM, if_pos h]
theorem cnt_n {v : List Int} {i : Nat} (h : ¬ isMin v i) : cntM v (i + 1) = cntM v i := by rw [cntM, if_neg h]
theorem cnt_bd (v : List Int) : ∀ i, 0 ≤ cntM v i ∧ cntM v i ≤ i
  | 0 => by rw [cnt_0]; omega
  | i + 1 => by
    have := cnt_bd v i
    rw [cntM]; split <;> omega
/-! the reference's way: on, up to a place that is not greater -/
theorem min_yes {v : List Int} (_h : Pm v) {i k : Nat} (_hi : i < v.length) (hk : 1 ≤ k) (hb : ∀ j, 1 ≤ j → j < k → i < it v i j) (e : it v i k = i) : isMin v i := fun m => by
  have e2 : it v i m = it v i (m % k) := by
    have hm : m = m / k * k + m % k := by have := Nat.div_add_mod m k; rw [Nat.mul_comm]; omega
    rw [hm, it_add, it_per e, Nat.mul_add_mod_self_right, Nat.mod_mod]
  rw [e2]
  have := Nat.mod_lt m (show k > 0 by omega)
  by_cases hz : m % k = 0
  · rw [hz, it_0]; exact Nat.le_refl _
  · exact Nat.le_of_lt (hb _ (by omega) this)
theorem min_no {v : List Int} {i k : Nat} (e : it v i k < i) : ¬ isMin v i := fun h => by have := h k; omega
/-! the program's way: places marked -/
abbrev bn (b : List Bool) (x : Nat) : Bool := b.getD x false
theorem bn_set (b : List Bool) (i j : Nat) (hi : i < b.length) : bn (b.set i true) j = if i = j then true else bn b j := by
  unfold bn
  rw [List.getD_eq_getElem?_getD, List.getElem?_set]
  by_cases e : i = j
  · subst e; simp [hi]
  · simp [e]
theorem bn_ge (b : List Bool) (j : Nat) (h : b.length ≤ j) : bn b j = false := by
  unfold bn; rw [List.getD_eq_getElem?_getD, List.getElem?_eq_none h]; rfl
def fals (b : List Bool) : Nat := b.count false
theorem fals_set {b : List Bool} {i : Nat} (hi : i < b.length) (h : bn b i = false) : fals (b.set i true) + 1 = fals b := by
  have h2 : b[i] = false := by unfold bn at h; rwa [getD_lt _ _ _ hi] at h
  have h3 : 0 < b.count false := List.count_pos_iff.2 (by rw [← h2]; exact List.getElem_mem hi)
  unfold fals
  rw [List.count_set hi, h2]
  simp; omega
structure Beg (v : List Int) (b : List Bool) (first : Nat) (r : Int) : Prop where
  len : b.length = v.length
  fle : first ≤ v.length
  pred : ∀ x, bn b x = true → ∃ z, bn b z = true ∧ nx v z = x
  low : ∀ x, x < first → bn b x = true
  orb : ∀ x, bn b x = true → ∃ y k, it v y k = x ∧ (y < first ∨ (y = first ∧ bn b first = true))
  cnt : r = cntM v (if bn b first = true then first + 1 else first)
structure On (v : List Int) (b : List Bool) (first at_ : Nat) (r : Int) : Prop where
  len : b.length = v.length
  flt : first < v.length
  alt : at_ < v.length
  new : bn b at_ = false
  pred : ∀ x, bn b x = true → x = first ∨ ∃ z, bn b z = true ∧ nx v z = x
  apred : at_ = first ∨ ∃ z, bn b z = true ∧ nx v z = at_
  low : ∀ x, x < first → bn b x = true
  orb : ∀ x, bn b x = true → ∃ y k, it v y k = x ∧ y ≤ first
  aorb : ∃ k, it v first k = at_
  had : at_ = first ∨ bn b first = true
  cnt : r = cntM v (first + 1)
theorem bn_lt {v : List Int} {b : List Bool} (hl : b.length = v.length) {x : Nat} (h : bn b x = true) : x < v.length := by
  refine Classical.byContradiction fun hc => ?_
  rw [bn_ge b x (by omega)] at h; cases h
theorem beg_0 (v : List Int) : Beg v (List.replicate v.length false) 0 0 := by
  have hf : ∀ x, bn (List.replicate v.length false) x = false := fun x => by
    unfold bn
    simp only [List.getD_eq_getElem?_getD, List.getElem?_replicate]
    split <;> rfl
  exact ⟨by simp, Nat.zero_le _, fun x hx => (by rw [hf] at hx; cases hx), fun x hx => absurd hx (Nat.not_lt_zero x), fun x hx => by (rw [hf] at hx; cases hx), by rw [hf, if_neg (by simp), cnt_0]⟩
theorem beg_skip {v : List Int} (hp : Pm v) {b : List Bool} {first : Nat} {r : Int} (h : Beg v b first r) (hb : bn b first = true) : Beg v b (first + 1) r := by
  have hlt := bn_lt h.len hb
  have horb : ∀ x, bn b x = true → ∃ y k, it v y k = x ∧ y < first + 1 := fun x hx => by
    obtain ⟨y, k, h1, h2⟩ := h.orb x hx
    exact ⟨y, k, h1, by omega⟩
  refine ⟨h.len, hlt, h.pred, fun x hx => ?_, fun x hx => ?_, ?_⟩
  · by_cases e : x = first
    · rw [e]; exact hb
    · exact h.low x (by omega)
  · obtain ⟨y, k, h1, h2⟩ := horb x hx
    exact ⟨y, k, h1, .inl h2⟩
  · rw [h.cnt, if_pos hb]
    by_cases e : bn b (first + 1) = true
    · rw [if_pos e]
      obtain ⟨y, k, h1, h2⟩ := horb _ e
      have hl2 := bn_lt h.len e
      obtain ⟨m, hm⟩ := it_sym hp (by omega) h1
      rw [cnt_n (min_no (i := first + 1) (k := m) (by omega))]
    · rw [if_neg e]
theorem back_been {v : List Int} (hp : Pm v) {b : List Bool} (hl : b.length = v.length) (hpred : ∀ x, bn b x = true → ∃ z, bn b z = true ∧ nx v z = x) {x : Nat} (hx : x < v.length) : ∀ k, bn b (it v x k) = true → bn b x = true
  | 0, h => by rwa [it_0] at h
  | k + 1, h => by
    obtain ⟨z, h1, h2⟩ := hpred _ h
    rw [it_1] at h2
    have := nx_inj hp (bn_lt hl h1) (it_lt hp hx k) h2
    rw [this] at h1
    exact back_been hp hl hpred hx k h1
theorem beg_on {v : List Int} (hp : Pm v) {b : List Bool} {first : Nat} {r : Int} (h : Beg v b first r) (hlt : first < v.length) (hb : bn b first = false) : On v b first first (r + 1) := by
  have hm : isMin v first := fun k => by
    refine Classical.byContradiction fun hc => ?_
    have h1 := back_been hp h.len h.pred hlt k (h.low _ (by omega))
    rw [hb] at h1; cases h1
  refine ⟨h.len, hlt, hlt, hb, fun x hx => .inr (h.pred x hx), .inl rfl, h.low, fun x hx => ?_, ⟨0, it_0 _ _⟩, .inl rfl, ?_⟩
  · obtain ⟨y, k, h1, h2⟩ := h.orb x hx
    exact ⟨y, k, h1, by omega⟩
  · rw [h.cnt, hb, if_neg (by simp), cnt_y hm]
theorem on_next {v : List Int} (hp : Pm v) {b : List Bool} {first at_ : Nat} {r : Int} (h : On v b first at_ r) (hne : nx v at_ ≠ first) : On v (b.set at_ true) first (nx v at_) r := by
  have hal : at_ < b.length := by rw [h.len]; exact h.alt
  have hs := fun j => bn_set b at_ j hal
  refine ⟨by rw [List.length_set, h.len], h.flt, nx_lt hp h.alt, ?_, fun x hx => ?_, .inr ⟨at_, by rw [hs, if_pos rfl], rfl⟩, fun x hx => ?_, fun x hx => ?_, ?_, .inr ?_, h.cnt⟩
  · rw [hs]
    by_cases e : at_ = nx v at_
    · exfalso
      rcases h.apred with h1 | ⟨z, h1, h2⟩
      · exact hne (e.symm.trans h1)
      · have := nx_inj hp (bn_lt h.len h1) h.alt (h2.trans e)
        rw [this, h.new] at h1; cases h1
    · rw [if_neg e]
      cases hb : bn b (nx v at_) with
      | false => rfl
      | true =>
        rcases h.pred _ hb with h1 | ⟨z, h1, h2⟩
        · exact absurd h1 hne
        · have := nx_inj hp (bn_lt h.len h1) h.alt h2
          rw [this, h.new] at h1; cases h1
  · rw [hs] at hx
    by_cases e : at_ = x
    · rcases h.apred with h1 | ⟨z, h1, h2⟩
      · exact .inl (e.symm.trans h1)
      · exact .inr ⟨z, by rw [hs, h1]; simp, h2.trans e⟩
    · rw [if_neg e] at hx
      rcases h.pred x hx with h1 | ⟨z, h1, h2⟩
      · exact .inl h1
      · exact .inr ⟨z, by rw [hs, h1]; simp, h2⟩
  · rw [hs, h.low x hx]; simp
  · rw [hs] at hx
    by_cases e : at_ = x
    · obtain ⟨k, hk⟩ := h.aorb
      exact ⟨first, k, hk.trans e, Nat.le_refl _⟩
    · rw [if_neg e] at hx
      exact h.orb x hx
  · obtain ⟨k, hk⟩ := h.aorb
    exact ⟨k + 1, by rw [it_1, hk]⟩
  · rw [hs]
    rcases h.had with h1 | h1
    · rw [if_pos h1]
    · rw [h1]; simp
theorem on_done {v : List Int} {b : List Bool} {first at_ : Nat} {r : Int} (h : On v b first at_ r) (he : nx v at_ = first) : Beg v (b.set at_ true) first r := by
  have hal : at_ < b.length := by rw [h.len]; exact h.alt
  have hs := fun j => bn_set b at_ j hal
  have hf : bn (b.set at_ true) first = true := by
    rw [hs]
    rcases h.had with h1 | h1
    · rw [if_pos h1]
    · rw [h1]; simp
  refine ⟨by rw [List.length_set, h.len], Nat.le_of_lt h.flt, fun x hx => ?_, fun x hx => ?_, fun x hx => ?_, by rw [hf, if_pos rfl]; exact h.cnt⟩
  · rw [hs] at hx
    by_cases e0 : x = first
    · exact ⟨at_, by rw [hs, if_pos rfl], he.trans e0.symm⟩
    · by_cases e : at_ = x
      · rcases h.apred with h1 | ⟨z, h1, h2⟩
        · exact absurd (e.symm.trans h1) e0
        · exact ⟨z, by rw [hs, h1]; simp, h2.trans e⟩
      · rw [if_neg e] at hx
        rcases h.pred x hx with h1 | ⟨z, h1, h2⟩
        · exact absurd h1 e0
        · exact ⟨z, by rw [hs, h1]; simp, h2⟩
  · rw [hs, h.low x hx]; simp
  · rw [hs] at hx
    have : ∃ y k, it v y k = x ∧ y ≤ first := by
      by_cases e : at_ = x
      · obtain ⟨k, hk⟩ := h.aorb
        exact ⟨first, k, hk.trans e, Nat.le_refl _⟩
      · rw [if_neg e] at hx
        exact h.orb x hx
    obtain ⟨y, k, h1, h2⟩ := this
    by_cases e : y = first
    · exact ⟨y, k, h1, .inr ⟨e, hf⟩⟩
    · exact ⟨y, k, h1, .inl (by omega)⟩
theorem beg_end {v : List Int} {b : List Bool} {first : Nat} {r : Int} (h : Beg v b first r) (e : first = v.length) : r = cntM v v.length := by
  rw [h.cnt, bn_ge b first (by rw [h.len]; omega), if_neg (by simp), e]
noncomputable def cycV (s : ByteArray) : Int := cntM (vecL s) s.size
end Vp
end Go.Proofs.Ytfelmdagolnpeaa
