/-
  ABSTRACT STATES: loops and joins, as lists of slots.
-/
import Derived.Test.YtmilegikgbmjpaaAb7
namespace Go.Proofs.Ytmilegikgbmjpaa
open Go.RowKit
namespace Ab
/-- names, some of them turned -/
def thf : List (Nat × Nat) → Nat → Nat
  | [], i => i
  | (a, b) :: l, i => bif Nat.beq i a then b else thf l i
theorem envOf_append : ∀ (l m : List (Nat × AV)) (θ : Nat → Nat) (env : Env), EnvLe θ env l → EnvLe θ env m → EnvLe θ env (l ++ m)
  | [], _, _, _, _, h => h
  | (_, _) :: l, m, θ, env, ⟨h1, h2⟩, h => ⟨h1, envOf_append l m θ env h2 h⟩
theorem hpLe_append : ∀ (l m : List (Nat × Chunk)) (θ : Nat → Nat) (hp : Heap), HpLe θ hp l → HpLe θ hp m → HpLe θ hp (l ++ m)
  | [], _, _, _, _, h => h
  | (_, _) :: l, m, θ, env, ⟨h1, h2⟩, h => ⟨h1, hpLe_append l m θ env h2 h⟩
theorem supE_append {cnt : Nat} : ∀ (l m : List (Nat × AV)), SupE cnt l → SupE cnt m → SupE cnt (l ++ m)
  | [], _, _, h => h
  | (_, _) :: l, m, ⟨h1, h2⟩, h => ⟨h1, supE_append l m h2 h⟩
theorem supH_append {cnt : Nat} : ∀ (l m : List (Nat × Chunk)), SupH cnt l → SupH cnt m → SupH cnt (l ++ m)
  | [], _, _, h => h
  | (_, _) :: l, m, ⟨h1, h2⟩, h => ⟨h1, supH_append l m h2 h⟩
theorem thf_low : ∀ (l : List (Nat × Nat)), l.all (fun x => Nat.ble 8 x.1) = true → ∀ i, i < 8 → thf l i = i
  | [], _, _, _ => rfl
  | (a, b) :: l, h, i, hi => by
    simp only [List.all_cons, Bool.and_eq_true] at h
    have ha := Nat.le_of_ble_eq_true h.1
    have : Nat.beq i a = false := by
      cases hb : Nat.beq i a with
      | true => have := Nat.eq_of_beq_eq_true hb; omega
      | false => rfl
    simp only [thf, this, cond_false]
    exact thf_low l h.2 i hi
structure EntL (st : St) (l fx : List (Nat × AV)) (hl hfx : List (Nat × Chunk)) (cnt : Nat) (θ : List (Nat × Nat)) : Prop where
  e1 : EnvLe (thf θ) st.env l
  e2 : EnvLe (thf θ) st.env fx
  h1 : HpLe (thf θ) st.heap hl
  h2 : HpLe (thf θ) st.heap hfx
  inj : injB (thf θ) (hl ++ hfx) = true
  s1 : SupE cnt l
  s2 : SupE cnt fx
  s3 : SupH cnt hl
  s4 : SupH cnt hfx
  c1 : Nat.ble 1 cnt = true
  pin : θ.all (fun x => Nat.ble 8 x.1) = true
theorem EntL.ent {st : St} {l fx : List (Nat × AV)} {hl hfx : List (Nat × Chunk)} {cnt : Nat} {θ : List (Nat × Nat)} (h : EntL st l fx hl hfx cnt θ) : Ent st ⟨envOf (l ++ fx), hpOf (hl ++ hfx), cnt⟩ :=
  Ent.of (thf θ) (Nat.le_of_ble_eq_true h.c1) (thf_low θ h.pin) (envOf_append _ _ _ _ h.e1 h.e2) (hpLe_append _ _ _ _ h.h1 h.h2) h.inj (supE_append _ _ h.s1 h.s2) (supH_append _ _ h.s3 h.s4)
theorem sup0 {A : AV} {cnt : Nat} (h : A.sup = []) : ∀ s ∈ A.sup, s / 8 < cnt := nosup h
theorem sup1 {A : AV} {id cnt : Nat} (h : A.sup = [id]) (hb : Nat.blt (id / 8) cnt = true) : ∀ s ∈ A.sup, s / 8 < cnt := fun s hs => by
  rw [h] at hs
  simp only [List.mem_singleton] at hs
  subst hs
  simpa [Nat.blt_eq] using hb
theorem supg {A : AV} {cnt : Nat} (h : A.sup.all (fun i => Nat.blt (i / 8) cnt) = true) : ∀ s ∈ A.sup, s / 8 < cnt := fun s hs => by
  have := List.all_eq_true.1 h s hs
  simpa [Nat.blt_eq] using this
theorem suph {c : Chunk} {i cnt : Nat} (hi : Nat.blt (i / 8) cnt = true) (h : c.sup.all (fun i => Nat.blt (i / 8) cnt) = true) : i / 8 < cnt ∧ ∀ s ∈ c.sup, s / 8 < cnt :=
  ⟨by simpa [Nat.blt_eq] using hi, fun s hs => by
    have := List.all_eq_true.1 h s hs
    simpa [Nat.blt_eq] using this⟩
theorem hp_row {hp : Heap} {θ : Nat → Nat} {k : Nat} {t : TypeId} {e n n' : Nat} {xs xs' : List Value} (h : hp (θ k) = some (.row t e n xs)) (h1 : n = n') (h2 : xs = xs') : ∃ c, hp (θ k) = some c ∧ Chunk.leq θ c (.row t e n' xs') := ⟨_, h, .row h1 h2⟩
theorem hp_var {hp : Heap} {θ : Nat → Nat} {k : Nat} {t : TypeId} {cs ds : List AV} (h : hp (θ k) = some (.var t cs)) (h1 : All2le θ cs ds) : ∃ c, hp (θ k) = some c ∧ Chunk.leq θ c (.var t ds) := ⟨_, h, .var h1⟩
section
variable {P : Program} {N : Nat} {st : St} {Q : Exit → St → Prop}
def LoopQ {G : Type} (I : G → Prop) (fx : List (Nat × AV)) (l : G → List (Nat × AV)) (hfx : List (Nat × Chunk)) (hl : G → List (Nat × Chunk)) (cnt : Nat) (μ : G → Nat) (g : G) (Q : Exit → St → Prop) : Exit → St → Prop
  | .normal, st => ∃ g' θ, I g' ∧ μ g' < μ g ∧ EntL st (l g') fx (hl g') hfx cnt θ
  | e, st => Q e st
theorem LoopQ.next {G : Type} {I : G → Prop} {fx : List (Nat × AV)} {l : G → List (Nat × AV)} {hfx : List (Nat × Chunk)} {hl : G → List (Nat × Chunk)} {cnt : Nat} {μ : G → Nat} {g : G} (g' : G) (θ : List (Nat × Nat)) (h1 : I g') (h2 : μ g' < μ g) (h3 : EntL st (l g') fx (hl g') hfx cnt θ) : LoopQ I fx l hfx hl cnt μ g Q .normal st := ⟨g', θ, h1, h2, h3⟩
/-- A LOOP: fx, hfx: slots and memory that no round changes; l, hl: what is so behind 'g' -/
theorem W_loopx {c : Code} {G : Type} (I : G → Prop) (fx : List (Nat × AV)) (l : G → List (Nat × AV)) (hfx : List (Nat × Chunk)) (hl : G → List (Nat × Chunk)) (cnt : Nat) (μ : G → Nat) (g0 : G) (θ : List (Nat × Nat)) (hI : I g0) (h0 : EntL st (l g0) fx (hl g0) hfx cnt θ)
    (round : ∀ g, I g → W P N c ⟨envOf (l g ++ fx), hpOf (hl g ++ hfx), cnt⟩ (LoopQ I fx l hfx hl cnt μ g Q)) : W P N (.loop c) st Q :=
  W_loop I (fun g => ⟨envOf (l g ++ fx), hpOf (hl g ++ hfx), cnt⟩) μ g0 hI h0.ent fun g hg => (round g hg).mono fun e st' h => by
    cases e with
    | normal =>
      obtain ⟨g', θ', h1, h2, h3⟩ := h
      exact ⟨g', h1, h2, h3.ent⟩
    | exit _ => exact h
    | goto _ => exact h
    | ret => exact h
    | panic _ => exact h
    | outgrown => exact h
/-- ways meet again -/
def JoinQ {G : Type} (I : G → Prop) (fx : List (Nat × AV)) (l : G → List (Nat × AV)) (hfx : List (Nat × Chunk)) (hl : G → List (Nat × Chunk)) (cnt : Nat) (Q : Exit → St → Prop) : Exit → St → Prop
  | .normal, st => ∃ g θ, I g ∧ EntL st (l g) fx (hl g) hfx cnt θ
  | e, st => Q e st
theorem JoinQ.meet {G : Type} {I : G → Prop} {fx : List (Nat × AV)} {l : G → List (Nat × AV)} {hfx : List (Nat × Chunk)} {hl : G → List (Nat × Chunk)} {cnt : Nat} (g : G) (θ : List (Nat × Nat)) (h1 : I g) (h3 : EntL st (l g) fx (hl g) hfx cnt θ) : JoinQ I fx l hfx hl cnt Q .normal st := ⟨g, θ, h1, h3⟩
theorem W_join {x y : Code} {G : Type} (I : G → Prop) (fx : List (Nat × AV)) (l : G → List (Nat × AV)) (hfx : List (Nat × Chunk)) (hl : G → List (Nat × Chunk)) (cnt : Nat) (h1 : W P N x st (JoinQ I fx l hfx hl cnt Q))
    (h2 : ∀ g, I g → W P N y ⟨envOf (l g ++ fx), hpOf (hl g ++ hfx), cnt⟩ Q) : W P N (.seq x y) st Q :=
  W_seq (h1.mono fun e st' h => by
    cases e with
    | normal =>
      obtain ⟨g, θ, hI, hE⟩ := h
      exact (h2 g hI).ent hE.ent
    | exit _ => exact h
    | goto _ => exact h
    | ret => exact h
    | panic _ => exact h
    | outgrown => exact h)
end
end Ab
end Go.Proofs.Ytmilegikgbmjpaa
