/-
  ABSTRACT STATES: what the slots hold, as predicates; memory of the call's own by names. A region's operations run over them in the order of the text; where the order is drawn, every order comes to the same.
-/
import Derived.WalkKit
import Derived.WalkSpells
import Derived.WalkLawsBesides
import Derived.Lib.Hide
import Derived.Laws.AppendOwn
import Derived.Orders
import Derived.OrdersIn
import Derived.RangeFuncLeaves
import Derived.RangeFuncSeq
namespace Go.Proofs.Ytmilegikgbmjpaa
open Go.RowKit
namespace Ab
abbrev Names := Nat → Value
/-- a world, and from which cell on each block of the call's own may turn -/
structure Kw where
  w : World
  own : Nat → Option Nat
  lt : ∀ b k, own b = some k → b < w.heap.size
/-- what may not turn has not turned -/
structure Kw.le (κ κ' : Kw) : Prop where
  os : κ'.w.os = κ.w.os
  tape : κ'.w.tape = κ.w.tape
  output : κ'.w.output = κ.w.output
  size : κ.w.heap.size ≤ κ'.w.heap.size
  still : ∀ b, b < κ.w.heap.size → κ.own b = none → κ'.own b = none ∧ κ'.w.heap[b]? = κ.w.heap[b]?
  grow : ∀ b k, κ.own b = some k → (∀ k', κ'.own b = some k' → k ≤ k') ∧ ∀ j u, j < k → κ.w.cell? ⟨b, j, none⟩ = some u → κ'.w.cell? ⟨b, j, none⟩ = some u
theorem Kw.le_refl (κ : Kw) : κ.le κ := ⟨rfl, rfl, rfl, Nat.le_refl _, fun _ _ h => ⟨h, rfl⟩, fun b k h => ⟨fun k' h' => by rw [h] at h'; cases h'; exact Nat.le_refl _, fun _ _ _ h => h⟩⟩
theorem lt_of_cell {w : World} {b off : Nat} {sp : Option Nat} {u : Value} (h : w.cell? ⟨b, off, sp⟩ = some u) : b < w.heap.size := by
  simp only [World.cell?] at h
  cases hb : w.heap[b]? with
  | none => simp [hb] at h
  | some o => exact (Array.getElem?_eq_some_iff.1 hb).1
theorem Kw.cell {κ κ' : Kw} (h : κ.le κ') {b j : Nat} {u : Value} (hc : κ.w.cell? ⟨b, j, none⟩ = some u) (hk : ∀ k, κ.own b = some k → j < k) :
    κ'.w.cell? ⟨b, j, none⟩ = some u ∧ ∀ k, κ'.own b = some k → j < k := by
  cases ho : κ.own b with
  | none =>
    obtain ⟨h1, h2⟩ := h.still b (lt_of_cell hc) ho
    refine ⟨?_, fun k hk' => by rw [h1] at hk'; cases hk'⟩
    simp only [World.cell?] at hc ⊢
    rw [h2]; exact hc
  | some k =>
    obtain ⟨h1, h2⟩ := h.grow b k ho
    exact ⟨h2 j u (hk k ho) hc, fun k' hk' => Nat.lt_of_lt_of_le (hk k ho) (h1 k' hk')⟩
theorem Kw.le_trans {a b c : Kw} (h : a.le b) (k : b.le c) : a.le c := by
  refine ⟨k.os.trans h.os, k.tape.trans h.tape, k.output.trans h.output, Nat.le_trans h.size k.size, fun i hi ho => ?_, fun i n ho => ?_⟩
  · obtain ⟨h1, h2⟩ := h.still i hi ho
    obtain ⟨k1, k2⟩ := k.still i (Nat.lt_of_lt_of_le hi h.size) h1
    exact ⟨k1, k2.trans h2⟩
  · obtain ⟨h1, h2⟩ := h.grow i n ho
    refine ⟨fun n' ho' => ?_, fun j u hj hu => ?_⟩
    · cases hb : b.own i with
      | none =>
        have := (k.still i (Nat.lt_of_lt_of_le (a.lt i n ho) h.size) hb).1
        rw [this] at ho'; cases ho'
      | some m => exact Nat.le_trans (h1 m hb) ((k.grow i m hb).1 n' ho')
    · have := h2 j u hj hu
      exact (Kw.cell k this (fun m hm => Nat.lt_of_lt_of_le hj (h1 m hm))).1

/-- what a slot holds -/
structure AV where
  p : Names → Kw → Value → Prop
  sup : List Nat
  loc : ∀ {σ σ' κ v}, (∀ i ∈ sup, σ' i = σ i) → p σ κ v → p σ' κ v
  mono : ∀ {σ κ κ' v}, κ.le κ' → p σ κ v → p σ κ' v
def Is (v : Value) : AV := ⟨fun _ _ u => u = v, [], fun _ h => h, fun _ h => h⟩
def Any : AV := ⟨fun _ _ _ => True, [], fun _ h => h, fun _ h => h⟩
/-- so where c holds; else nothing was laid -/
def Cnd (c : Prop) (A : AV) : AV := ⟨fun σ κ u => (c → A.p σ κ u) ∧ (¬ c → u = undef), A.sup, fun hs h => ⟨fun hc => A.loc hs (h.1 hc), h.2⟩, fun hk h => ⟨fun hc => A.mono hk (h.1 hc), h.2⟩⟩
/-- a guard: it lets through just where g holds -/
def Grd (B : AV) (want : Bool) (g : Prop) : Prop := ∀ σ κ v, B.p σ κ v → (g → v = .bool want) ∧ (¬ g → v ≠ .bool want)
theorem Grd.is {B : AV} {want β : Bool} (h : B = Is (.bool β)) : Grd B want (β = want) := fun σ κ v hv => by
  subst h
  have hv : v = .bool β := hv
  subst hv
  exact ⟨fun e => by rw [e], fun e h => e (by injection h)⟩
theorem Grd.cnd {B : AV} {want β : Bool} {c : Prop} (h : B = Cnd c (Is (.bool β))) : Grd B want (c ∧ β = want) := fun σ κ v hv => by
  subst h
  obtain ⟨h1, h2⟩ := hv
  by_cases hc : c
  · have hv : v = .bool β := h1 hc
    subst hv
    exact ⟨fun e => by rw [e.2], fun e h => e ⟨hc, by injection h⟩⟩
  · rw [h2 hc]
    exact ⟨fun e => absurd e.1 hc, fun _ h => by cases h⟩
def Ptr (id off : Nat) : AV := ⟨fun σ _ u => ∃ b, σ id = .pointer (some ⟨b, 0, none⟩) ∧ u = .pointer (some ⟨b, off, none⟩), [id],
  fun hs ⟨b, h1, h2⟩ => ⟨b, (hs id (by simp)).trans h1, h2⟩, fun _ h => h⟩
/-- from an address on these cells stand, and may not turn -/
def Rd (κ : Kw) (ad : Addr) (xs : List Value) : Prop := ∀ j u, xs[j]? = some u → ad.spot = none ∧ κ.w.cell? ⟨ad.block, ad.off + j, none⟩ = some u ∧ ∀ k, κ.own ad.block = some k → ad.off + j < k
theorem Rd.mono {κ κ' : Kw} (hk : κ.le κ') {ad : Addr} {xs : List Value} (h : Rd κ ad xs) : Rd κ' ad xs := fun j u hj => by
  obtain ⟨h1, h2, h3⟩ := h j u hj
  exact ⟨h1, Kw.cell hk h2 h3⟩
def SlP (κ : Kw) (e n : Nat) (xs : List Value) (u : Value) : Prop :=
  xs.length = n * e ∧ ((u = .slice none 0 0 ∧ n = 0) ∨ ∃ ad c, u = .slice (some ad) n c ∧ n ≤ c ∧ c ≤ maxLen ∧ Rd κ ad xs)
theorem SlP.mono {κ κ' : Kw} (hk : κ.le κ') {e n : Nat} {xs : List Value} {u : Value} (h : SlP κ e n xs u) : SlP κ' e n xs u := by
  obtain ⟨hl, h | ⟨ad, c, h1, h2, h3, h4⟩⟩ := h
  · exact ⟨hl, .inl h⟩
  · exact ⟨hl, .inr ⟨ad, c, h1, h2, h3, h4.mono hk⟩⟩
/-- a slice of n elements of e cells each that reads as these cells -/
def Sl (e n : Nat) (xs : List Value) : AV := ⟨fun _ κ u => SlP κ e n xs u, [], fun _ h => h, fun hk h => h.mono hk⟩
/-- so one of the call's own -/
def Own (id e n : Nat) (xs : List Value) : AV := ⟨fun σ κ u => u = σ id ∧ SlP κ e n xs u, [id], fun hs ⟨h1, h2⟩ => ⟨h1.trans (hs id (by simp)).symm, h2⟩, fun hk ⟨h1, h2⟩ => ⟨h1, h2.mono hk⟩⟩
/-- the address of cells that may not turn -/
def Elt (xs : List Value) : AV := ⟨fun _ κ u => ∃ ad, u = .pointer (some ad) ∧ Rd κ ad xs, [], fun _ h => h, fun hk ⟨ad, h1, h2⟩ => ⟨ad, h1, h2.mono hk⟩⟩
def All2 (σ : Names) (κ : Kw) : List AV → List Value → Prop
  | [], [] => True
  | A :: l, v :: vs => A.p σ κ v ∧ All2 σ κ l vs
  | _, _ => False
theorem All2.loc {σ σ' : Names} {κ : Kw} : ∀ {l : List AV} {vs : List Value}, (∀ A ∈ l, ∀ i ∈ A.sup, σ' i = σ i) → All2 σ κ l vs → All2 σ' κ l vs
  | [], [], _, _ => trivial
  | A :: l, v :: vs, hs, ⟨h1, h2⟩ => ⟨A.loc (hs A (by simp)) h1, All2.loc (fun B hB => hs B (by simp [hB])) h2⟩
  | [], _ :: _, _, h => h
  | _ :: _, [], _, h => h
theorem All2.mono {σ : Names} {κ κ' : Kw} (hk : κ.le κ') : ∀ {l : List AV} {vs : List Value}, All2 σ κ l vs → All2 σ κ' l vs
  | [], [], _ => trivial
  | A :: _, _ :: _, ⟨h1, h2⟩ => ⟨A.mono hk h1, All2.mono hk h2⟩
  | [], _ :: _, h => h
  | _ :: _, [], h => h
theorem All2.length {σ : Names} {κ : Kw} : ∀ {l : List AV} {vs : List Value}, All2 σ κ l vs → vs.length = l.length
  | [], [], _ => rfl
  | _ :: _, _ :: _, ⟨_, h2⟩ => by simp [All2.length h2]
  | [], _ :: _, h => h.elim
  | _ :: _, [], h => h.elim
theorem sup_mem {l : List AV} {A : AV} {i : Nat} (hA : A ∈ l) (hi : i ∈ A.sup) : i ∈ l.flatMap AV.sup := List.mem_flatMap.2 ⟨A, hA, hi⟩
def Agg (l : List AV) : AV := ⟨fun σ κ u => ∃ us : List Value, u = .agg us.toArray ∧ All2 σ κ l us, l.flatMap AV.sup,
  fun hs ⟨us, h1, h2⟩ => ⟨us, h1, h2.loc fun _A hA i hi => hs i (sup_mem hA hi)⟩, fun hk ⟨us, h1, h2⟩ => ⟨us, h1, h2.mono hk⟩⟩
def Tup (l : List AV) : AV := ⟨fun σ κ u => ∃ us : List Value, u = .tuple us.toArray ∧ All2 σ κ l us, l.flatMap AV.sup,
  fun hs ⟨us, h1, h2⟩ => ⟨us, h1, h2.loc fun _A hA i hi => hs i (sup_mem hA hi)⟩, fun hk ⟨us, h1, h2⟩ => ⟨us, h1, h2.mono hk⟩⟩

/-- rounds of a range over a function, by the loop's number: how many there are at most, of what, and which go on -/
structure ItC where
  l : Nat
  n : Nat
  vals : Nat → List AV
  go : Nat → Bool
/-- memory of the call's own: a variable, or a row that grows at its end; how many rounds have been -/
inductive Chunk where
  | var (t : TypeId) (cs : List AV)
  | row (t : TypeId) (e n : Nat) (xs : List Value)
  | buf (t : TypeId) (l : List Value)
  | arr (t : TypeId) (l : List Value)
  | idx (I : ItC) (k : Nat)
def Chunk.sup : Chunk → List Nat
  | .var _ cs => cs.flatMap AV.sup
  | .row .. => []
  | .buf .. => []
  | .arr .. => []
  | .idx .. => []
def blk : Value → Option Nat
  | .pointer (some a) => some a.block
  | .slice (some a) _ _ => some a.block
  | _ => none
def Chunk.at (σ : Names) (κ : Kw) (u : Value) : Chunk → Prop
  | .var t cs => ∃ b us, u = .pointer (some ⟨b, 0, none⟩) ∧ κ.w.heap[b]? = some (.cells us t (0, 0)) ∧ All2 σ κ cs us.toList ∧ κ.own b = some 0
  | .row t e n xs => κ.w.ownsRow 0 t e u n xs ∧ ∀ g, blk u = some g → κ.own g = some (n * e)
  | .buf t l => ∃ b tl fr c, u = .slice (some ⟨b, 0, none⟩) l.length c ∧ κ.w.heap[b]? = some (.cells (l ++ tl).toArray t fr) ∧ (∀ j, j < l.length → ¬ (fr.1 ≤ j ∧ j < fr.2)) ∧ l.length ≤ c ∧ c ≤ maxLen ∧ κ.own b = some 0
  | .arr t l => ∃ b, u = .pointer (some ⟨b, 0, none⟩) ∧ κ.w.heap[b]? = some (.cells l.toArray t (0, 0)) ∧ κ.own b = some 0
  | .idx _ _ => u = undef
theorem Chunk.loc {σ σ' : Names} {κ : Kw} {u : Value} {c : Chunk} (hs : ∀ i ∈ c.sup, σ' i = σ i) (h : c.at σ κ u) : c.at σ' κ u := by
  cases c with
  | row t e n xs => exact h
  | buf t l => exact h
  | arr t l => exact h
  | idx I k => exact h
  | var t cs =>
    obtain ⟨b, us, h1, h2, h3, h4⟩ := h
    exact ⟨b, us, h1, h2, h3.loc fun A hA i hi => hs i (sup_mem hA hi), h4⟩
theorem Chunk.keep {σ : Names} {κ κ' : Kw} {u : Value} {c : Chunk} (hk : κ.le κ') (hb : ∀ g, blk u = some g → κ'.w.heap[g]? = κ.w.heap[g]? ∧ κ'.own g = κ.own g) (h : c.at σ κ u) : c.at σ κ' u := by
  cases c with
  | row t e n xs =>
    obtain ⟨⟨hl, h1⟩, h2⟩ := h
    refine ⟨⟨hl, ?_⟩, fun g hg => by rw [(hb g hg).2]; exact h2 g hg⟩
    rcases h1 with h1 | ⟨g, cap, cur, h3, h4, h5, h6⟩
    · exact .inl h1
    · exact .inr ⟨g, cap, cur, h3, h4, by rw [(hb g (by rw [h3]; rfl)).1]; exact h5, h6⟩
  | buf t l =>
    obtain ⟨b, tl, fr, c, h1, h2, h3, h4, h5, h6⟩ := h
    have := hb b (by rw [h1]; rfl)
    exact ⟨b, tl, fr, c, h1, by rw [this.1]; exact h2, h3, h4, h5, by rw [this.2]; exact h6⟩
  | arr t l =>
    obtain ⟨b, h1, h2, h3⟩ := h
    have := hb b (by rw [h1]; rfl)
    exact ⟨b, h1, by rw [this.1]; exact h2, by rw [this.2]; exact h3⟩
  | idx I k => exact h
  | var t cs =>
    obtain ⟨b, us, h1, h2, h3, h4⟩ := h
    have := hb b (by rw [h1]; rfl)
    exact ⟨b, us, h1, by rw [this.1]; exact h2, h3.mono hk, by rw [this.2]; exact h4⟩
theorem Chunk.own {σ : Names} {κ : Kw} {u : Value} {c : Chunk} (h : c.at σ κ u) {g : Nat} (hg : blk u = some g) : ∃ k, κ.own g = some k := by
  cases c with
  | row t e n xs => exact ⟨_, h.2 g hg⟩
  | buf t l =>
    obtain ⟨b, tl, fr, c, h1, h2, h3, h4, h5, h6⟩ := h
    rw [h1] at hg; cases hg
    exact ⟨_, h6⟩
  | arr t l =>
    obtain ⟨b, h1, h2, h3⟩ := h
    rw [h1] at hg; cases hg
    exact ⟨_, h3⟩
  | idx I k =>
    have h1 : u = undef := h
    rw [h1] at hg; cases hg
  | var t cs =>
    obtain ⟨b, us, h1, h2, h3, h4⟩ := h
    rw [h1] at hg; cases hg
    exact ⟨_, h4⟩
abbrev Heap := Nat → Option Chunk
structure HR (base : Nat → Prop) (σ : Names) (κ : Kw) (h : Heap) : Prop where
  at_ : ∀ i c, h i = some c → c.at σ κ (σ i)
  far : ∀ i j g, i ≠ j → h i ≠ none → h j ≠ none → blk (σ i) = some g → blk (σ j) ≠ some g
  base : ∀ i c g, h i = some c → blk (σ i) = some g → ¬ base g
def upd {α : Type} (f : Nat → α) (k : Nat) (v : α) : Nat → α := fun n => bif Nat.beq n k then v else f n
theorem upd_same {α : Type} (f : Nat → α) (k : Nat) (v : α) : upd f k v k = v := by simp [upd]
theorem upd_other {α : Type} (f : Nat → α) (k : Nat) (v : α) (n : Nat) (h : n ≠ k) : upd f k v n = f n := by
  unfold upd
  have : Nat.beq n k = false := by
    cases hb : Nat.beq n k with
    | true => exact absurd (Nat.eq_of_beq_eq_true hb) h
    | false => rfl
  rw [this]; rfl
def updl (h : Heap) : List (Nat × Option Chunk) → Heap
  | [] => h
  | (i, c) :: l => updl (upd h i c) l
theorem updl_out : ∀ (l : List (Nat × Option Chunk)) (h : Heap) (i : Nat), (∀ x ∈ l, x.1 ≠ i) → updl h l i = h i
  | [], _, _, _ => rfl
  | (j, c) :: l, h, i, hi => by
    have h1 := updl_out l (upd h j c) i (fun x hx => hi x (by simp [hx]))
    have h2 : i ≠ j := fun e => hi (j, c) (by simp) e.symm
    simp only [updl]
    rw [h1, upd_other _ _ _ _ h2]
theorem updl_congr : ∀ (l : List (Nat × Option Chunk)) (h h' : Heap) (i : Nat), (h i = h' i ∨ ∃ x ∈ l, x.1 = i) → updl h l i = updl h' l i
  | [], _, _, _, hi => by
    rcases hi with hi | ⟨x, hx, _⟩
    · exact hi
    · cases hx
  | (j, c) :: l, h, h', i, hi => by
    simp only [updl]
    refine updl_congr l _ _ i ?_
    by_cases e : i = j
    · subst e; exact .inl (by rw [upd_same, upd_same])
    · rcases hi with hi | ⟨x, hx, hxi⟩
      · exact .inl (by rw [upd_other _ _ _ _ e, upd_other _ _ _ _ e]; exact hi)
      · rcases List.mem_cons.1 hx with rfl | hx
        · exact absurd hxi.symm e
        · exact .inr ⟨x, hx, hxi⟩
structure Res where
  val : AV
  rd : List Nat
  wr : List (Nat × Option Chunk)
/-- operation o, named nid: over slots ρ and memory h it comes to r -/
structure Valid (P : Program) (nid : Nat) (o : Oper) (ρ : Operand → AV) (h : Heap) (r : Res) : Prop where
  run : ∀ (base : Nat → Prop) (σ : Names) (κ : Kw) (h' : Heap) (a : Act) (next : Act → World → Prop) (Q : Exit → Act → World → Prop),
    (∀ x ∈ o.op.operands, (ρ x).p σ κ (a.eval x)) → (∀ i ∈ r.rd, h' i = h i) → HR base σ κ h' → (∀ b, base b → b < κ.w.heap.size) → (∀ x ∈ o.op.operands, ∀ s ∈ (ρ x).sup, s / 8 ≠ nid) →
    (∀ i c, h' i = some c → i / 8 ≠ nid ∧ ∀ s ∈ c.sup, s / 8 ≠ nid) →
    (∀ v σ' (κ' : Kw), κ.le κ' → (∀ b, base b → κ'.own b = κ.own b ∧ κ'.w.heap[b]? = κ.w.heap[b]?) → (∀ i, i / 8 ≠ nid → σ' i = σ i) → r.val.p σ' κ' v → HR base σ' κ' (updl h' r.wr) → next (a.put o.dst v) κ'.w) →
    o.wp P a κ.w next Q
  sup : ∀ U : Nat → Prop, (∀ x ∈ o.op.operands, ∀ s ∈ (ρ x).sup, U s) → (∀ i ∈ r.rd, ∀ c, h i = some c → U i ∧ ∀ s ∈ c.sup, U s) →
    (∀ s ∈ r.val.sup, U s ∨ s / 8 = nid) ∧ ∀ i c, (i, some c) ∈ r.wr → ∀ s ∈ c.sup, U s ∨ s / 8 = nid
  wr : ∀ x ∈ r.wr, (x.1 ∈ r.rd ∧ h x.1 ≠ none) ∨ x.1 / 8 = nid
abbrev Env := Nat → AV
def ρof (env : Env) : Operand → AV
  | .tmp t => env t
  | .const v => Is v
  | .global _ => Any
  | .func f => Is (.func (.func f) #[] #[])
/-- whose frame: a function's own, or a round's -/
def rnd : Option Nat → Fence
  | none => Fence.wide
  | some l => Fence.wide.inRound l
theorem rnd_fn (r : Option Nat) (f : FuncId) : (rnd r).fn f := by cases r <;> trivial
theorem rnd_depth (r : Option Nat) : (rnd r).depth = none := by cases r <;> rfl
theorem rnd_round (r : Option Nat) : (rnd r).round = r := by cases r <;> rfl
theorem callsIn_rnd {r : Option Nat} {n : Nat} {P : Program} {f : FuncId} {args : Array Value} {w : World} {R : Ending → World → Prop} : CallsIn (rnd r) n P f args w R ↔ Calls P f args w R := by
  cases r with
  | none => exact callsIn_wide
  | some l => exact callsIn_wide (n := n)
/-- blocks that none but a round turns -/
def Bd (D : Nat → Prop) (κ : Kw) : Prop := ∀ b, D b → b < κ.w.heap.size ∧ κ.own b = some 0
def Still (D : Nat → Prop) (κ κ' : Kw) : Prop := ∀ b, D b → κ'.own b = κ.own b ∧ κ'.w.heap[b]? = κ.w.heap[b]?
structure Fix where
  N : Nat
  base : Nat → Prop
  σ0 : Names
  κ0 : Kw
  round : Option Nat
  K : (Nat → Prop) → Kw → Prop
  J : ItC → Nat → (Nat → Prop) → Kw → Prop
  stK : ∀ D κ κ', K D κ → κ.le κ' → Still D κ κ' → K D κ'
  stJ : ∀ I k D κ κ', J I k D κ → κ.le κ' → Still D κ κ' → J I k D κ'
  rd : ∀ l, round = some l → ∀ D κ, K D κ → D l ∧ ∃ r, κ.w.heap[l]? = some (.loop r)
def Fix.plain (N : Nat) (base : Nat → Prop) (σ0 : Names) (κ0 : Kw) : Fix := ⟨N, base, σ0, κ0, none, fun _ _ => True, fun _ _ _ _ => False, fun _ _ _ _ _ _ => trivial, fun _ _ _ _ _ h _ _ => h.elim, fun _ h => by cases h⟩
/-- what a call of yield comes to -/
def Fix.ok (P : Program) (X : Fix) : Prop := ∀ I k D κ, Bd D κ → X.K D κ → X.J I k D κ → k < I.n → (∀ j, j < k → I.go j = true) → ∀ vs : List Value, All2 X.σ0 κ (I.vals k) vs → ∀ m, YieldAt Fence.wide m P I.l vs.toArray κ.w fun e w' =>
  ∃ κ' D', e = .returned (.bool (I.go k)) ∧ κ'.w = w' ∧ κ.le κ' ∧ Bd D' κ' ∧ (∀ b, b < κ.w.heap.size → ¬ D b → ¬ D' b ∧ κ'.own b = κ.own b ∧ κ'.w.heap[b]? = κ.w.heap[b]?) ∧ X.K D' κ' ∧ X.J I (k + 1) D' κ'
theorem Fix.ok_plain {P : Program} {X : Fix} (h : ∀ I k D κ, ¬ X.J I k D κ) : X.ok P := fun I k D κ _ _ hj => absurd hj (h I k D κ)
def idxOf (h : Heap) : Option (ItC × Nat) := match h 0 with
  | some (.idx I k) => some (I, k)
  | _ => none
theorem idxOf_congr {h h' : Heap} (e : h' 0 = h 0) : idxOf h' = idxOf h := by unfold idxOf; rw [e]
def mark (r : Nat) : Deferred := { target := .collected r, args := #[] }
structure Prot (X : Fix) (heap : Heap) (ds : List Deferred) (σ : Names) (κ : Kw) (D : Nat → Prop) (ms : List Nat) : Prop where
  bd : Bd D κ
  nb : ∀ b, D b → ¬ X.base b
  far : ∀ i c g, heap i = some c → blk (σ i) = some g → ¬ D g ∧ g ∉ ms
  k : X.K D κ
  j : ∀ I k, idxOf heap = some (I, k) → X.J I k D κ
  ds : ds = ms.map mark
  nodup : ms.Nodup
  marks : ∀ r, r ∈ ms → ¬ D r ∧ ¬ X.base r ∧ X.κ0.w.heap.size ≤ r ∧ κ.own r = some 0 ∧ κ.w.heap[r]? = some (.deferred (some []))
theorem Prot.lt {X : Fix} {heap : Heap} {ds : List Deferred} {σ : Names} {κ : Kw} {D : Nat → Prop} {ms : List Nat} (h : Prot X heap ds σ κ D ms) {r : Nat} (hr : r ∈ ms) : r < κ.w.heap.size := (Array.getElem?_eq_some_iff.1 (h.marks r hr).2.2.2.2).1
/-- nothing of it has turned -/
theorem Prot.to {X : Fix} {heap heap' : Heap} {ds : List Deferred} {σ σ' : Names} {κ κ' : Kw} {D : Nat → Prop} {ms : List Nat} (h : Prot X heap ds σ κ D ms) (hle : κ.le κ') (hD : Still D κ κ') (hm : Still (· ∈ ms) κ κ')
    (far : ∀ i c g, heap' i = some c → blk (σ' i) = some g → ¬ D g ∧ g ∉ ms) (hi : ∀ I k, idxOf heap' = some (I, k) → idxOf heap = some (I, k)) : Prot X heap' ds σ' κ' D ms where
  bd := fun b hb => ⟨Nat.lt_of_lt_of_le (h.bd b hb).1 hle.size, (hD b hb).1.trans (h.bd b hb).2⟩
  nb := h.nb
  far := far
  k := X.stK _ _ _ h.k hle hD
  j := fun I k e => X.stJ _ _ _ _ _ (h.j I k (hi I k e)) hle hD
  ds := h.ds
  nodup := h.nodup
  marks := fun r hr => by
    obtain ⟨h1, h2, h3, h4, h5⟩ := h.marks r hr
    exact ⟨h1, h2, h3, (hm r hr).1.trans h4, (hm r hr).2.trans h5⟩
theorem Prot.new {X : Fix} {heap : Heap} {ds : List Deferred} {σ : Names} {κ : Kw} {D : Nat → Prop} {ms : List Nat} (h : Prot X heap ds σ κ D ms) {i0 : Nat} {v : Value} {c : Chunk} (hb : blk v = none) (hne : i0 ≠ 0) : Prot X (upd heap i0 (some c)) ds (upd σ i0 v) κ D ms where
  bd := h.bd
  nb := h.nb
  far := fun i d g hd hg => by
    by_cases e : i = i0
    · subst e; rw [upd_same, hb] at hg; cases hg
    · rw [upd_other _ _ _ _ e] at hd hg
      exact h.far i d g hd hg
  k := h.k
  j := fun I k e => h.j I k (by rw [← e]; exact (idxOf_congr (upd_other _ _ _ _ (Ne.symm hne))).symm)
  ds := h.ds
  nodup := h.nodup
  marks := h.marks
theorem Prot.alter {X : Fix} {heap : Heap} {ds : List Deferred} {σ : Names} {κ : Kw} {D : Nat → Prop} {ms : List Nat} (h : Prot X heap ds σ κ D ms) {i0 : Nat} {c c' : Chunk} (hk : heap i0 = some c) (hn : ∀ I k, c' ≠ .idx I k) : Prot X (upd heap i0 (some c')) ds σ κ D ms where
  bd := h.bd
  nb := h.nb
  far := fun i d g hd hg => by
    by_cases e : i = i0
    · subst e; exact h.far i c g hk hg
    · rw [upd_other _ _ _ _ e] at hd
      exact h.far i d g hd hg
  k := h.k
  j := fun I k e => by
    by_cases e0 : 0 = i0
    · subst e0
      cases c' with
      | idx I' k' => exact absurd rfl (hn I' k')
      | _ => simp [idxOf, upd_same] at e
    · exact h.j I k (by rw [← e]; exact (idxOf_congr (upd_other _ _ _ _ e0)).symm)
  ds := h.ds
  nodup := h.nodup
  marks := h.marks
theorem Fix.plain_ok {P : Program} {N : Nat} {base : Nat → Prop} {σ0 : Names} {κ0 : Kw} : (Fix.plain N base σ0 κ0).ok P := Fix.ok_plain fun _ _ _ _ h => h
theorem Prot.plain {N : Nat} {base : Nat → Prop} {σ0 σ : Names} {κ0 κ : Kw} {heap : Heap} (hi : idxOf heap = none) : Prot (Fix.plain N base σ0 κ0) heap [] σ κ (fun _ => False) [] where
  bd := fun _ h => h.elim
  nb := fun _ h => h.elim
  far := fun _ _ _ _ _ => ⟨fun h => h, by simp⟩
  k := trivial
  j := fun I k e => by rw [hi] at e; cases e
  ds := rfl
  nodup := List.nodup_nil
  marks := fun r hr => by cases hr
/-- operation o, named nid, whoever is served: over slots ρ and memory h it comes to r -/
structure VOp (P : Program) (nid : Nat) (o : Oper) (ρ : Operand → AV) (h : Heap) (r : Res) : Prop where
  run : ∀ (X : Fix) (D mk : Nat → Prop) (σ : Names) (κ : Kw) (h' : Heap) (a : Act) (next : Act → World → Prop) (Q : Exit → Act → World → Prop) (n : Nat), X.ok P →
    (∀ x ∈ o.op.operands, (ρ x).p σ κ (a.eval x)) → (∀ i ∈ r.rd, h' i = h i) → HR (fun b => X.base b ∨ D b ∨ mk b) σ κ h' → (∀ b, X.base b ∨ D b ∨ mk b → b < κ.w.heap.size) → Bd D κ → (∀ b, D b → ¬ X.base b ∧ ¬ mk b) → X.K D κ → (∀ I k, idxOf h' = some (I, k) → X.J I k D κ) →
    (∀ x ∈ o.op.operands, ∀ s ∈ (ρ x).sup, s / 8 ≠ nid) → (∀ i c, h' i = some c → i / 8 ≠ nid ∧ ∀ s ∈ c.sup, s / 8 ≠ nid) →
    (∀ v σ' (κ' : Kw) (D' : Nat → Prop), κ.le κ' → (∀ b, X.base b ∨ mk b → κ'.own b = κ.own b ∧ κ'.w.heap[b]? = κ.w.heap[b]?) → Bd D' κ' → (∀ b, D' b → ¬ X.base b ∧ ¬ mk b) → X.K D' κ' → (∀ I k, idxOf (updl h' r.wr) = some (I, k) → X.J I k D' κ') →
      (∀ i, i / 8 ≠ nid → σ' i = σ i) → r.val.p σ' κ' v → HR (fun b => X.base b ∨ D' b ∨ mk b) σ' κ' (updl h' r.wr) → next (a.put o.dst v) κ'.w) →
    o.wpIn (rnd X.round) n P a κ.w next Q
  sup : ∀ U : Nat → Prop, (∀ x ∈ o.op.operands, ∀ s ∈ (ρ x).sup, U s) → (∀ i ∈ r.rd, ∀ c, h i = some c → U i ∧ ∀ s ∈ c.sup, U s) →
    (∀ s ∈ r.val.sup, U s ∨ s / 8 = nid) ∧ ∀ i c, (i, some c) ∈ r.wr → ∀ s ∈ c.sup, U s ∨ s / 8 = nid
  wr : ∀ x ∈ r.wr, (x.1 ∈ r.rd ∧ h x.1 ≠ none) ∨ x.1 / 8 = nid
/-- no deferring, and nothing of the rounds' count -/
def calmB (o : Oper) (r : Res) : Bool := (match o.op with | .defer _ => false | _ => true) && r.wr.all fun x => !Nat.beq x.1 0
theorem wp_rnd {P : Program} {o : Oper} {a : Act} {w : World} {K : Act → World → Prop} {Q : Exit → Act → World → Prop} (hd : ∀ c, o.op ≠ .defer c) (h : o.wp P a w K Q) (r : Option Nat) (n : Nat) : o.wpIn (rnd r) n P a w K Q := by
  refine ⟨fun f _ => rnd_fn r f, ?_⟩
  rw [rnd_round, Oper.semAt_eq _ _ _ hd]
  unfold Oper.wp at h
  have hdep : (rnd r).depth.isSome = true → 1 ≤ n := fun e => by rw [rnd_depth] at e; cases e
  generalize (execOp a.eval o).run P w = res at h ⊢
  match res, h with
  | .ok (.value v) w', h => exact h
  | .ok .skip w', h => exact h
  | .ok (.defer d) w', h => exact h
  | .ok (.enter f args) w', h => exact ⟨hdep, callsIn_rnd.2 (Calls.mono h fun e w'' he => by cases e <;> exact he)⟩
  | .ok (.row row args) w', h =>
    refine ⟨hdep, fun c cs _ => ?_⟩
    obtain ⟨v, w'', h1, h2⟩ := h c cs
    refine ⟨v, w'', h1, ?_⟩
    cases r with
    | none => exact stepsIn_wide.2 h2
    | some l => exact stepsIn_wide.2 h2
  | .halt (.panic v) w', h => exact h
theorem updl_zero : ∀ (l : List (Nat × Option Chunk)) (h : Heap), (l.all fun x => !Nat.beq x.1 0) = true → updl h l 0 = h 0 := fun l h hl => updl_out l h 0 fun x hx e => by
  have := List.all_eq_true.1 hl x hx
  rw [e] at this; simp at this
theorem Valid.up {P : Program} {nid : Nat} {o : Oper} {ρ : Operand → AV} {h : Heap} {r : Res} (hv : Valid P nid o ρ h r) (hz : calmB o r = true) : VOp P nid o ρ h r where
  sup := hv.sup
  wr := hv.wr
  run := fun X D mk σ κ h' a next Q n _ hops hrd hr hb hbd hdd hk hj hsn hfr hnext => by
    simp only [calmB, Bool.and_eq_true] at hz
    have hd : ∀ c, o.op ≠ .defer c := fun c e => by rw [e] at hz; simp at hz
    refine wp_rnd hd (hv.run _ σ κ h' a next Q hops hrd hr hb hsn hfr fun v σ' κ' hle hold hσ hval hhr => ?_) _ n
    have hD : Still D κ κ' := fun b hb' => hold b (.inr (.inl hb'))
    refine hnext v σ' κ' D hle (fun b hb' => hold b (hb'.elim .inl fun h => .inr (.inr h))) (fun b hb' => ⟨Nat.lt_of_lt_of_le (hbd b hb').1 hle.size, (hD b hb').1.trans (hbd b hb').2⟩) hdd (X.stK _ _ _ hk hle hD) (fun I k e => X.stJ _ _ _ _ _ (hj I k ?_) hle hD) hσ hval hhr
    rw [idxOf_congr (updl_zero r.wr h' hz.2)] at e
    exact e
def GValid (P : Program) (nid : Nat) (ops : Array Oper) (o : Oper) (env : Env) (h : Heap) (r : Res) : Prop :=
  match o.guard with
  | none => VOp P nid o (ρof env) h r
  | some (j, want) => ∃ (d : Nat) (g : Prop), (ops[j]?).bind (·.dst) = some d ∧ Grd (env d) want g ∧
    ((g ∧ VOp P nid o (ρof env) h r) ∨ (¬ g ∧ r = ⟨Is undef, [], []⟩) ∨
      ∃ A rd env', (g → VOp P nid o (ρof env') h ⟨A, rd, []⟩ ∧ ∀ t, Operand.tmp t ∈ o.op.operands → (∀ σ κ v, (env t).p σ κ v → (env' t).p σ κ v) ∧ ∀ s ∈ (env' t).sup, s ∈ (env t).sup) ∧ (∀ s ∈ A.sup, ∃ t, Operand.tmp t ∈ o.op.operands ∧ s ∈ (env t).sup) ∧ r = ⟨Cnd g A, rd, []⟩)
def putE (env : Env) : Option Tmp → AV → Env
  | none, _ => env
  | some d, A => upd env d A
structure RK (X : Fix) (used : Nat → Prop) (env : Env) (heap : Heap) (a : Act) (σ : Names) (κ : Kw) : Prop where
  tmps : a.tmps.size = X.N
  base : ∀ b, X.base b → b < κ.w.heap.size
  pin : ∀ i, i < 8 → σ i = X.σ0 i
  env_ : ∀ t, (env t).p σ κ (a.tmps.getD t undef)
  hr : HR X.base σ κ heap
  le0 : X.κ0.le κ
  old : ∀ b, X.base b → κ.own b = X.κ0.own b ∧ κ.w.heap[b]? = X.κ0.w.heap[b]?
  sup : ∀ t, ∀ s ∈ (env t).sup, used s
  hsup : ∀ i c, heap i = some c → used i ∧ ∀ s ∈ c.sup, used s
  prot : ∃ D ms, Prot X heap a.defers σ κ D ms
def R (X : Fix) (used : Nat → Prop) (env : Env) (heap : Heap) (a : Act) (w : World) : Prop := ∃ σ κ, κ.w = w ∧ RK X used env heap a σ κ
theorem RK.eval {X : Fix} {used : Nat → Prop} {env : Env} {heap : Heap} {a : Act} {σ : Names} {κ : Kw} (h : RK X used env heap a σ κ) (x : Operand) : (ρof env x).p σ κ (a.eval x) := by
  cases x with
  | tmp t => exact h.env_ t
  | const v => rfl
  | global g => trivial
  | func f => rfl
theorem put_getD (a : Act) (dst : Option Tmp) (v : Value) (t : Nat) (hd : ∀ d, dst = some d → d < a.tmps.size) : (a.put dst v).tmps.getD t undef = if dst = some t then v else a.tmps.getD t undef := by
  cases dst with
  | none => simp [Act.put]
  | some d =>
    have := hd d rfl
    simp only [Act.put, Array.getD_eq_getD_getElem?, Array.getElem?_setIfInBounds]
    by_cases e : d = t
    · subst e; simp [this]
    · simp [e]
theorem put_size (a : Act) (dst : Option Tmp) (v : Value) : (a.put dst v).tmps.size = a.tmps.size := by cases dst <;> simp [Act.put]
theorem put_defers (a : Act) (dst : Option Tmp) (v : Value) : (a.put dst v).defers = a.defers := by cases dst <;> simp [Act.put]
theorem putE_eq (env : Env) (dst : Option Tmp) (A : AV) (t : Nat) : putE env dst A t = if dst = some t then A else env t := by
  cases dst with
  | none => simp [putE]
  | some d =>
    by_cases e : d = t
    · subst e; simp [putE, upd_same]
    · simp [putE, upd_other _ _ _ _ (fun h => e h.symm), e]
theorem RK.put {X : Fix} {used : Nat → Prop} {env : Env} {heap : Heap} {a : Act} {σ : Names} {κ : Kw} (h : RK X used env heap a σ κ) (dst : Option Tmp) (hd : ∀ d, dst = some d → d < X.N) (v : Value) (A : AV) (hA : A.p σ κ v) (hs : ∀ s ∈ A.sup, used s) :
    RK X used (putE env dst A) heap (a.put dst v) σ κ := by
  refine { h with tmps := by rw [put_size]; exact h.tmps, prot := by rw [put_defers]; exact h.prot, env_ := fun t => ?_, sup := fun t s => ?_ }
  · rw [put_getD _ _ _ _ (fun d hd' => by rw [h.tmps]; exact hd d hd'), putE_eq]
    split
    · exact hA
    · exact h.env_ t
  · rw [putE_eq]
    split
    · exact hs s
    · exact h.sup t s
/-- one operation, carried out -/
theorem step {P : Program} {X : Fix} {used : Nat → Prop} {env env0 : Env} {heap heap0 : Heap} {a : Act} {w : World} {nid : Nat} {o : Oper} {r : Res} {Q : Exit → Act → World → Prop} (hok : X.ok P) (n : Nat)
    (h : R X used env heap a w) (h1n : 1 ≤ nid) (hn : ∀ s, used s → s / 8 ≠ nid) (hv : VOp P nid o (ρof env0) heap0 r) (he : ∀ t, Operand.tmp t ∈ o.op.operands → (∀ σ κ v, (env t).p σ κ v → (env0 t).p σ κ v) ∧ ∀ s ∈ (env0 t).sup, s ∈ (env t).sup) (hh : ∀ i ∈ r.rd, heap i = heap0 i) (hd : ∀ d, o.dst = some d → d < X.N) :
    o.wpIn (rnd X.round) n P a w (fun a' w' => R X (fun s => used s ∨ s / 8 = nid) (putE env o.dst r.val) (updl heap r.wr) a' w') Q := by
  obtain ⟨σ, κ, rfl, h⟩ := h
  obtain ⟨D, ms, hp⟩ := h.prot
  have hρ : ∀ x ∈ o.op.operands, (∀ σ κ v, (ρof env x).p σ κ v → (ρof env0 x).p σ κ v) ∧ ∀ s ∈ (ρof env0 x).sup, s ∈ (ρof env x).sup := fun x hx => by
    cases x with
    | tmp t => exact he t hx
    | _ => exact ⟨fun _ _ _ h => h, fun _ h => h⟩
  refine hv.run X D (· ∈ ms) σ κ heap a _ Q n hok (fun x hx => (hρ x hx).1 _ _ _ (h.eval x)) hh ⟨h.hr.at_, h.hr.far, fun i c g hc hg hb => by
      rcases hb with hb | hb | hb
      · exact h.hr.base i c g hc hg hb
      · exact (hp.far i c g hc hg).1 hb
      · exact (hp.far i c g hc hg).2 hb⟩ (fun b hb => by
      rcases hb with hb | hb | hb
      · exact h.base b hb
      · exact (hp.bd b hb).1
      · exact hp.lt hb) hp.bd (fun b hb => ⟨hp.nb b hb, fun hm => (hp.marks b hm).1 hb⟩) hp.k hp.j (fun x hx s hs => by
      replace hs := (hρ x hx).2 s hs
      cases x with
      | tmp t => exact hn s (h.sup t s hs)
      | const v => cases hs
      | global v => cases hs
      | func v => cases hs) (fun i c hc => ⟨hn i (h.hsup i c hc).1, fun s hs => hn s ((h.hsup i c hc).2 s hs)⟩) ?_
  intro v σ' κ' D' hle hold hbd' hdd' hk' hj' hσ hval hhr'
  have hb : ∀ b, X.base b → κ'.own b = κ.own b ∧ κ'.w.heap[b]? = κ.w.heap[b]? := fun b h => hold b (.inl h)
  have hhr : HR X.base σ' κ' (updl heap r.wr) := ⟨hhr'.at_, hhr'.far, fun i c g hc hg hb => hhr'.base i c g hc hg (.inl hb)⟩
  have hprot : Prot X (updl heap r.wr) a.defers σ' κ' D' ms := ⟨hbd', fun b hb => (hdd' b hb).1, fun i c g hc hg => ⟨fun hb => hhr'.base i c g hc hg (.inr (.inl hb)), fun hb => hhr'.base i c g hc hg (.inr (.inr hb))⟩, hk', hj', hp.ds, hp.nodup, fun m hm => by
    obtain ⟨h1, h2, h3, h4, h5⟩ := hp.marks m hm
    have := hold m (.inr hm)
    exact ⟨fun hb => (hdd' m hb).2 hm, h2, h3, this.1.trans h4, this.2.trans h5⟩⟩
  obtain ⟨s1, s2⟩ := hv.sup used (fun x hx s hs => by
      replace hs := (hρ x hx).2 s hs
      cases x with
      | tmp t => exact h.sup t s hs
      | const v => cases hs
      | global v => cases hs
      | func v => cases hs) (fun i hi c hc => by rw [← hh i hi] at hc; exact h.hsup i c hc)
  have hsup : ∀ i c, updl heap r.wr i = some c → (used i ∨ i / 8 = nid) ∧ ∀ s ∈ c.sup, used s ∨ s / 8 = nid := by
    have key : ∀ (l : List (Nat × Option Chunk)) (g : Heap), (∀ x ∈ l, x ∈ r.wr) → (∀ i c, g i = some c → (used i ∨ i / 8 = nid) ∧ ∀ s ∈ c.sup, used s ∨ s / 8 = nid) → ∀ i c, updl g l i = some c → (used i ∨ i / 8 = nid) ∧ ∀ s ∈ c.sup, used s ∨ s / 8 = nid := by
      intro l
      induction l with
      | nil => intro g _ hg; exact hg
      | cons x l ih =>
        obtain ⟨j, c0⟩ := x
        intro g hl hg
        refine ih _ (fun x hx => hl x (by simp [hx])) (fun i c hc => ?_)
        by_cases e : i = j
        · subst e
          rw [upd_same] at hc
          subst hc
          refine ⟨?_, s2 i c (hl _ (by simp))⟩
          rcases hv.wr (i, some c) (hl _ (by simp)) with hw | hw
          · have hne : heap i ≠ none := by rw [hh i hw.1]; exact hw.2
            cases hc1 : heap i with
            | none => exact absurd hc1 hne
            | some c1 => exact .inl (h.hsup i c1 hc1).1
          · exact .inr hw
        · rw [upd_other _ _ _ _ e] at hc
          exact hg i c hc
    exact key r.wr heap (fun _ hx => hx) (fun i c hc => ⟨.inl (h.hsup i c hc).1, fun s hs => .inl ((h.hsup i c hc).2 s hs)⟩)
  refine ⟨σ', κ', rfl, ?_⟩
  have h2 : RK X (fun s => used s ∨ s / 8 = nid) env (updl heap r.wr) a σ' κ' :=
    { tmps := h.tmps, prot := ⟨D', ms, hprot⟩, base := fun b hb => Nat.lt_of_lt_of_le (h.base b hb) hle.size
      pin := fun i hi => (hσ i (by omega)).trans (h.pin i hi)
      env_ := fun t => (env t).mono hle ((env t).loc (fun i hi => hσ i (hn i (h.sup t i hi))) (h.env_ t))
      hr := hhr, le0 := Kw.le_trans h.le0 hle
      old := fun b hb' => ⟨(hb b hb').1.trans (h.old b hb').1, (hb b hb').2.trans (h.old b hb').2⟩
      sup := fun t s hs => .inl (h.sup t s hs), hsup := hsup }
  exact h2.put o.dst hd v r.val hval s1
end Ab
end Go.Proofs.Ytmilegikgbmjpaa
