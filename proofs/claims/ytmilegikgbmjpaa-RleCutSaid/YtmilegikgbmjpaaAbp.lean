/-
  JUMPS to more than one label over abstract states.
-/
import Derived.Test.YtmilegikgbmjpaaAbo
namespace Go.Proofs.Ytmilegikgbmjpaa
open Go.RowKit
namespace Ab
def JN (J : Nat → Act → World → Prop) (Q : Exit → Act → World → Prop) : Exit → Act → World → Prop
  | .goto l, a, w => J l a w
  | e, a, w => Q e a w
theorem wpIn_scope_jumpN {P : Program} {F : Fence} {n : Nat} {c : Code} {Q : Exit → Act → World → Prop} {a : Act} {w : World} (J : Nat → Nat → Act → World → Prop)
    (hJ : ∀ l m a w, J l m a w → ∃ rest, findLabel c l = some rest ∧ rest.wpIn F n P (JN (fun l' a' w' => ∃ m', m' < m ∧ J l' m' a' w') Q) a w)
    (first : c.wpIn F n P (JN (fun l a w => ∃ m, J l m a w) Q) a w) : (Code.scope c).wpIn F n P Q a w := by
  intro b k cs hro hb hr
  have h0 : (lone (b.atR a (.code (.scope c) :: k)) cs w).fenced P F := fenced_calm hb hr rfl
  have hx : ∀ id, exitTo id (.inScope c :: k) = exitTo id k := fun id => by simp [exitTo]
  have key : ∀ m l a w rest, findLabel c l = some rest → J l m a w → ∃ e a' w', Q e a' w' ∧ ArrivesIn (Machine.fenced P F) P (lone (b.atR a (.code rest :: .inScope c :: k)) cs w) b k cs e a' w' := by
    intro m
    induction m using Nat.strongRecOn with
    | _ m ih =>
      intro l a w rest hf hj
      obtain ⟨rest', hf', hp⟩ := hJ l m a w hj
      rw [hf] at hf'; cases hf'
      obtain ⟨e, a₁, w₁, hq, harr⟩ := hp b (.inScope c :: k) cs hro hb hr
      cases e with
      | normal => exact ⟨.normal, a₁, w₁, hq, StepsIn.trans harr (.one (fenced_calm hb hr rfl) stepR_inScope)⟩
      | exit id => exact ⟨.exit id, a₁, w₁, hq, fun k' hk => harr.1 k' (by rw [hx]; exact hk), fun hr' hk => harr.2 hr' (by rw [hx]; exact hk)⟩
      | goto l' =>
        obtain ⟨m', hlt, hJ'⟩ := hq
        obtain ⟨r2, hf2, _⟩ := hJ l' m' a₁ w₁ hJ'
        have hg : gotoIn l' (.inScope c :: k) = some (.code r2 :: .inScope c :: k) := by simp [gotoIn, hf2]
        obtain ⟨e₂, a₂, w₂, hq₂, harr₂⟩ := ih _ hlt l' a₁ w₁ r2 hf2 hJ'
        exact ⟨e₂, a₂, w₂, hq₂, .of_steps (harr.1 _ hg) harr₂⟩
      | ret => exact ⟨_, a₁, w₁, hq, harr⟩
      | panic ch => exact ⟨_, a₁, w₁, hq, harr⟩
      | outgrown => exact ⟨_, a₁, w₁, hq, harr⟩
  obtain ⟨e, a₁, w₁, hq, harr⟩ := first b (.inScope c :: k) cs hro hb hr
  cases e with
  | normal => exact ⟨.normal, a₁, w₁, hq, .head h0 stepR_scope (StepsIn.trans harr (.one (fenced_calm hb hr rfl) stepR_inScope))⟩
  | exit id => exact ⟨.exit id, a₁, w₁, hq, fun k' hk => .head h0 stepR_scope (harr.1 k' (by rw [hx]; exact hk)), fun hr' hk => let ⟨k₁, h1, h2⟩ := harr.2 hr' (by rw [hx]; exact hk); ⟨k₁, h1, .head h0 stepR_scope h2⟩⟩
  | goto l' =>
    obtain ⟨m', hJ'⟩ := hq
    obtain ⟨r2, hf2, _⟩ := hJ l' m' a₁ w₁ hJ'
    have hg : gotoIn l' (.inScope c :: k) = some (.code r2 :: .inScope c :: k) := by simp [gotoIn, hf2]
    obtain ⟨e₂, a₂, w₂, hq₂, harr₂⟩ := key m' l' a₁ w₁ r2 hf2 hJ'
    exact ⟨e₂, a₂, w₂, hq₂, .of_steps (.head h0 stepR_scope (harr.1 _ hg)) harr₂⟩
  | ret => exact ⟨_, a₁, w₁, hq, .of_steps (.one h0 stepR_scope) harr⟩
  | panic ch => exact ⟨_, a₁, w₁, hq, .of_steps (.one h0 stepR_scope) harr⟩
  | outgrown => exact ⟨_, a₁, w₁, hq, .of_steps (.one h0 stepR_scope) harr⟩
section
variable {P : Program} {N : Nat} {st : St} {Q : Exit → St → Prop}
/-- as Q; by a goto: one of J's heads, with less than B -/
def JumpsQ (J : Nat → Nat → St → Prop) (B : Option Nat) (Q : Exit → St → Prop) : Exit → St → Prop
  | .goto l, st => ∃ m st0, (∀ b, B = some b → m < b) ∧ J l m st0 ∧ Ent st st0
  | e, st => Q e st
theorem W_scopeN {c : Code} (J : Nat → Nat → St → Prop) (hJ : ∀ l m st0, J l m st0 → ∃ rest, findLabel c l = some (.seq .skip rest) ∧ W P N rest st0 (JumpsQ J (some m) Q))
    (first : W P N c st (JumpsQ J none Q)) : W P N (.scope c) st Q := fun X n a w hok hX hR => by
  subst hX
  refine wpIn_scope_jumpN (fun l m a w => ∃ st0, J l m st0 ∧ RS X st0 a w) (fun l m a w ⟨st0, h1, h2⟩ => ?_) (wpIn_mono (first X n a w hok rfl hR) fun e a' w' ⟨st', hq, hR'⟩ => ?_)
  · obtain ⟨rest, hf, hw⟩ := hJ l m st0 h1
    refine ⟨_, hf, wpIn_mono (W_seq (W_skip hw) X n a w hok rfl h2) fun e a' w' ⟨st', hq, hR'⟩ => ?_⟩
    cases e with
    | goto l' =>
      obtain ⟨m', st1, h3, h4, h5⟩ := hq
      exact ⟨m', h3 m rfl, st1, h4, h5 X a' w' hR'⟩
    | normal => exact ⟨st', hq, hR'⟩
    | exit _ => exact ⟨st', hq, hR'⟩
    | ret => exact ⟨st', hq, hR'⟩
    | panic _ => exact ⟨st', hq, hR'⟩
    | outgrown => exact ⟨st', hq, hR'⟩
  · cases e with
    | goto l' =>
      obtain ⟨m', st1, _, h4, h5⟩ := hq
      exact ⟨m', st1, h4, h5 X a' w' hR'⟩
    | normal => exact ⟨st', hq, hR'⟩
    | exit _ => exact ⟨st', hq, hR'⟩
    | ret => exact ⟨st', hq, hR'⟩
    | panic _ => exact ⟨st', hq, hR'⟩
    | outgrown => exact ⟨st', hq, hR'⟩
theorem JumpsQ.up {J : Nat → Nat → St → Prop} {m : Nat} {B : Option Nat} (h : ∀ b, B = some b → m ≤ b) {e : Exit} {st : St} (hq : JumpsQ J (some m) Q e st) : JumpsQ J B Q e st := by
  cases e with
  | goto l' =>
    obtain ⟨m', st1, h3, h4, h5⟩ := hq
    exact ⟨m', st1, fun b hb => Nat.lt_of_lt_of_le (h3 m rfl) (h b hb), h4, h5⟩
  | normal => exact hq
  | exit _ => exact hq
  | ret => exact hq
  | panic _ => exact hq
  | outgrown => exact hq
/-- a head: its states, and how far they are from the end -/
def Hat {G : Type} (I : G → Prop) (fx : List (Nat × AV)) (l : G → List (Nat × AV)) (hfx : List (Nat × Chunk)) (hl : G → List (Nat × Chunk)) (cnt : Nat) (μ : G → Nat) (m : Nat) (st : St) : Prop :=
  ∃ g, I g ∧ m = μ g ∧ st = ⟨envOf (l g ++ fx), hpOf (hl g ++ hfx), cnt⟩
def J2 (l0 l1 : Nat) (A B : Nat → St → Prop) (l m : Nat) (st : St) : Prop := (l = l0 ∧ A m st) ∨ (l = l1 ∧ B m st)
section
variable {c R0 R1 : Code} {G0 G1 : Type} {l0 l1 : Nat} {I0 : G0 → Prop} {fx0 : List (Nat × AV)} {e0 : G0 → List (Nat × AV)} {hfx0 : List (Nat × Chunk)} {hl0 : G0 → List (Nat × Chunk)} {cnt0 : Nat} {μ0 : G0 → Nat}
  {I1 : G1 → Prop} {fx1 : List (Nat × AV)} {e1 : G1 → List (Nat × AV)} {hfx1 : List (Nat × Chunk)} {hl1 : G1 → List (Nat × Chunk)} {cnt1 : Nat} {μ1 : G1 → Nat}
theorem W_scopeB {c R0 R1 : Code} {G0 G1 : Type} (l0 l1 : Nat) (hf0 : findLabel c l0 = some (.seq .skip R0)) (hf1 : findLabel c l1 = some (.seq .skip R1))
    (I0 : G0 → Prop) (fx0 : List (Nat × AV)) (e0 : G0 → List (Nat × AV)) (hfx0 : List (Nat × Chunk)) (hl0 : G0 → List (Nat × Chunk)) (cnt0 : Nat) (μ0 : G0 → Nat)
    (I1 : G1 → Prop) (fx1 : List (Nat × AV)) (e1 : G1 → List (Nat × AV)) (hfx1 : List (Nat × Chunk)) (hl1 : G1 → List (Nat × Chunk)) (cnt1 : Nat) (μ1 : G1 → Nat)
    (first : (∀ g, I0 g → W P N R0 ⟨envOf (e0 g ++ fx0), hpOf (hl0 g ++ hfx0), cnt0⟩ (JumpsQ (J2 l0 l1 (Hat I0 fx0 e0 hfx0 hl0 cnt0 μ0) (Hat I1 fx1 e1 hfx1 hl1 cnt1 μ1)) (some (μ0 g)) Q)) → W P N c st (JumpsQ (J2 l0 l1 (Hat I0 fx0 e0 hfx0 hl0 cnt0 μ0) (Hat I1 fx1 e1 hfx1 hl1 cnt1 μ1)) none Q))
    (pass0 : (∀ g, I1 g → W P N R1 ⟨envOf (e1 g ++ fx1), hpOf (hl1 g ++ hfx1), cnt1⟩ (JumpsQ (J2 l0 l1 (Hat I0 fx0 e0 hfx0 hl0 cnt0 μ0) (Hat I1 fx1 e1 hfx1 hl1 cnt1 μ1)) (some (μ1 g)) Q)) → ∀ g, I0 g → W P N R0 ⟨envOf (e0 g ++ fx0), hpOf (hl0 g ++ hfx0), cnt0⟩ (JumpsQ (J2 l0 l1 (Hat I0 fx0 e0 hfx0 hl0 cnt0 μ0) (Hat I1 fx1 e1 hfx1 hl1 cnt1 μ1)) (some (μ0 g)) Q))
    (pass1 : ∀ g, I1 g → W P N R1 ⟨envOf (e1 g ++ fx1), hpOf (hl1 g ++ hfx1), cnt1⟩ (JumpsQ (J2 l0 l1 (Hat I0 fx0 e0 hfx0 hl0 cnt0 μ0) (Hat I1 fx1 e1 hfx1 hl1 cnt1 μ1)) (some (μ1 g)) Q)) : W P N (.scope c) st Q := by
  refine W_scopeN (J2 l0 l1 (Hat I0 fx0 e0 hfx0 hl0 cnt0 μ0) (Hat I1 fx1 e1 hfx1 hl1 cnt1 μ1)) (fun l m st0 h => ?_) (first (pass0 pass1))
  rcases h with ⟨rfl, g, h1, rfl, rfl⟩ | ⟨rfl, g, h1, rfl, rfl⟩
  · exact ⟨R0, hf0, pass0 pass1 g h1⟩
  · exact ⟨R1, hf1, pass1 g h1⟩
theorem W_enterB {J : Nat → Nat → St → Prop} {R : Code} {G : Type} {lab : Nat} {B : Option Nat} {I : G → Prop} {fx : List (Nat × AV)} {l : G → List (Nat × AV)} {hfx : List (Nat × Chunk)} {hl : G → List (Nat × Chunk)} {cnt : Nat} {μ : G → Nat}
    (hpass : ∀ g, I g → W P N R ⟨envOf (l g ++ fx), hpOf (hl g ++ hfx), cnt⟩ (JumpsQ J (some (μ g)) Q)) (g0 : G) (θ : List (Nat × Nat)) (hI : I g0) (hμ : ∀ b, B = some b → μ g0 ≤ b) (hE : EntL st (l g0) fx (hl g0) hfx cnt θ) :
    W P N (.seq (.label lab) R) st (JumpsQ J B Q) :=
  W_seq (W_label (W.ent ((hpass g0 hI).mono fun _ _ h => JumpsQ.up hμ h) hE.ent))
theorem JumpsQ.go0 {B : Option Nat} (g : G0) (θ : List (Nat × Nat)) (h1 : I0 g) (h2 : ∀ b, B = some b → μ0 g < b) (h3 : EntL st (e0 g) fx0 (hl0 g) hfx0 cnt0 θ) : JumpsQ (J2 l0 l1 (Hat I0 fx0 e0 hfx0 hl0 cnt0 μ0) (Hat I1 fx1 e1 hfx1 hl1 cnt1 μ1)) B Q (.goto l0) st := ⟨_, _, h2, .inl ⟨rfl, g, h1, rfl, rfl⟩, h3.ent⟩
theorem JumpsQ.go1 {B : Option Nat} (g : G1) (θ : List (Nat × Nat)) (h1 : I1 g) (h2 : ∀ b, B = some b → μ1 g < b) (h3 : EntL st (e1 g) fx1 (hl1 g) hfx1 cnt1 θ) : JumpsQ (J2 l0 l1 (Hat I0 fx0 e0 hfx0 hl0 cnt0 μ0) (Hat I1 fx1 e1 hfx1 hl1 cnt1 μ1)) B Q (.goto l1) st := ⟨_, _, h2, .inr ⟨rfl, g, h1, rfl, rfl⟩, h3.ent⟩
end
variable {J : Nat → Nat → St → Prop} {B : Option Nat}
theorem jumpsQ_n (h : Q .normal st) : JumpsQ J B Q .normal st := h
theorem jumpsQ_r (h : Q .ret st) : JumpsQ J B Q .ret st := h
theorem jumpsQ_e {i : Nat} (h : Q (.exit i) st) : JumpsQ J B Q (.exit i) st := h
theorem mu_lt {m b0 : Nat} (h : m < b0) : ∀ b, some b0 = some b → m < b := fun b hb => by cases hb; exact h
theorem mu_le {m b0 : Nat} (h : m ≤ b0) : ∀ b, some b0 = some b → m ≤ b := fun b hb => by cases hb; exact h
theorem mu_any {m : Nat} : ∀ b, none = some b → m ≤ b := fun b hb => by cases hb
end
end Ab
end Go.Proofs.Ytmilegikgbmjpaa
