/-
  ABSTRACT STATES: forms for a program that writes the walks.
-/
import Derived.Test.YtmilegikgbmjpaaAb6
import Derived.Below
import Derived.Test.YtmilegikgbmjpaaKit
namespace Go.Proofs.Ytmilegikgbmjpaa
open Go.RowKit
namespace Ab
section
variable {P : Program} {nid : Nat} {o : Oper} {ρ : Operand → AV} {h : Heap}
theorem RVal.is {st : St} {t : Tmp} {A : AV} {v v' : Value} (h : st.env t = Is v) (hA : A = Is v') (e : v = v') : RVal P st (.tmp t) A := .tmp fun σ κ u hu => by
  rw [h] at hu; subst hA e; exact hu
theorem RVal.sl {st : St} {t : Tmp} {A : AV} {e n n' : Nat} {xs xs' : List Value} (h : Reads (st.env t) e n xs) (hA : A = Sl e n' xs') (e1 : n = n') (e2 : xs = xs') : RVal P st (.tmp t) A := .tmp fun σ κ u hu => by
  subst hA e1 e2; exact h σ κ u hu
theorem leq_is {θ : Nat → Nat} {A B : AV} {v v' : Value} (h : A = Is v) (h' : B = Is v') (e : v = v') : A.leq θ B := fun σ κ u hu => by subst h h' e; exact hu
theorem leq_any {θ : Nat → Nat} {A : AV} : A.leq θ Any := fun _ _ _ _ => trivial
theorem leq_sl {θ : Nat → Nat} {A B : AV} {e n n' : Nat} {xs xs' : List Value} (h : Reads A e n xs) (h' : B = Sl e n' xs') (e1 : n = n') (e2 : xs = xs') : A.leq θ B := fun σ κ u hu => by subst h' e1 e2; exact h σ κ u hu
theorem leq_own {θ : Nat → Nat} {A B : AV} {id id' e n n' : Nat} {xs xs' : List Value} (h : A = Own id e n xs) (h' : B = Own id' e n' xs') (hθ : Nat.beq (θ id') id = true) (e1 : n = n') (e2 : xs = xs') : A.leq θ B := fun σ κ u hu => by
  subst h h' e1 e2
  have := Nat.eq_of_beq_eq_true hθ
  subst this; exact hu
theorem leq_ptr {θ : Nat → Nat} {A B : AV} {id id' off : Nat} (h : A = Ptr id off) (h' : B = Ptr id' off) (hθ : Nat.beq (θ id') id = true) : A.leq θ B := fun σ κ u hu => by
  subst h h'
  have := Nat.eq_of_beq_eq_true hθ
  subst this; exact hu
theorem leq_elt {θ : Nat → Nat} {A B : AV} {xs xs' : List Value} (h : A = Elt xs) (h' : B = Elt xs') (e : xs = xs') : A.leq θ B := fun σ κ u hu => by subst h h' e; exact hu
theorem leq_agg {θ : Nat → Nat} {A B : AV} {l m : List AV} (h : A = Agg l) (h' : B = Agg m) (e : All2le θ l m) : A.leq θ B := fun σ κ u hu => by
  subst h h'
  obtain ⟨us, h1, h2⟩ := hu
  exact ⟨us, h1, e.all2 h2⟩
theorem argle {A B : AV} (h : A = B) : ∀ σ κ v, A.p σ κ v → B.p σ κ v := fun _ _ _ hv => h ▸ hv
theorem argle_sl {A : AV} {e n : Nat} {xs : List Value} (h : Reads A e n xs) : ∀ σ κ v, A.p σ κ v → (Sl e n xs).p σ κ v := h
/-- nil, as a row of the call's own -/
theorem Ent.ownnil {st : St} (k : Nat) (t : TypeId) (e : Nat) (hk : st.env k = Is (.slice none 0 0)) : Ent st ⟨upd st.env k (Own (8 * st.cnt) e 0 []), upd st.heap (8 * st.cnt) (some (.row t e 0 [])), st.cnt + 1⟩ := by
  intro X a w ⟨hc1, σ, κ, hw, h⟩
  have hfr : ∀ s, s / 8 < st.cnt → upd σ (8 * st.cnt) (.slice none 0 0) s = σ s := fun s hs => upd_other _ _ _ _ (fun e => by omega)
  have hold : ∀ i c, st.heap i = some c → i ≠ 8 * st.cnt := fun i c hc e => by
    have : i / 8 < st.cnt := (h.hsup i c hc).1
    omega
  refine ⟨Nat.le_succ_of_le hc1, upd σ (8 * st.cnt) (.slice none 0 0), κ, hw, { tmps := h.tmps, prot := (by obtain ⟨D, ms, hp⟩ := h.prot; exact ⟨D, ms, hp.new rfl (by omega)⟩), base := h.base, pin := fun i hi => by rw [upd_other _ _ _ _ (fun e => by omega)]; exact h.pin i hi, env_ := fun t' => ?_, le0 := h.le0, old := h.old, hr := ?_, sup := fun t' s hs => ?_, hsup := fun i c hc => ?_ }⟩
  · by_cases e : t' = k
    · subst e
      simp only [upd_same]
      have := h.env_ t'
      rw [hk] at this
      have this : a.tmps.getD t' undef = .slice none 0 0 := this
      exact ⟨by rw [this, upd_same], by rw [this]; exact ⟨by simp, .inl ⟨rfl, rfl⟩⟩⟩
    · simp only [upd_other _ _ _ _ e]
      exact (st.env t').loc (fun i hi => hfr i (h.sup t' i hi)) (h.env_ t')
  · exact h.hr.set (Kw.le_refl κ) (8 * st.cnt) (.slice none 0 0) (.row t e 0 []) (fun _ => false) (fun _ _ _ _ _ _ _ => ⟨rfl, rfl⟩) ⟨World.ownsRow_nil κ.w 0 t e, fun g hg => by cases hg⟩
      (fun i g _ _ _ _ he => by cases he) (fun g hg => by cases hg) (fun i d hd _ _ j hj => hfr j ((h.hsup i d hd).2 j hj)) _ (upd_same _ _ _) (fun i hi _ => upd_other _ _ _ _ hi) (fun i _ hf => by cases hf)
  · show s / 8 < st.cnt + 1
    by_cases e : t' = k
    · subst e
      simp only [upd_same] at hs
      have : s ∈ [8 * st.cnt] := hs
      simp at this; omega
    · simp only [upd_other _ _ _ _ e] at hs
      have : s / 8 < st.cnt := h.sup t' s hs
      omega
  · show i / 8 < st.cnt + 1 ∧ ∀ s ∈ c.sup, s / 8 < st.cnt + 1
    by_cases e : i = 8 * st.cnt
    · subst e
      simp only [upd_same] at hc
      cases hc
      exact ⟨by omega, fun s hs => by cases hs⟩
    · simp only [upd_other _ _ _ _ e] at hc
      obtain ⟨h1, h2⟩ := h.hsup i c hc
      have h1 : i / 8 < st.cnt := h1
      exact ⟨by omega, fun s hs => by have : s / 8 < st.cnt := h2 s hs; omega⟩
/-- an element type's row of the table -/
def TI (P : Program) (el : TypeId) (e bytes : Nat) : Prop := ∃ i z, P.info? el = some i ∧ i.zero = some z ∧ i.size = e ∧ i.bytes = bytes ∧ z.cells.size = e
theorem TI.mk' {el : TypeId} {z : Value} {e bytes : Nat} (h : (P.info? el).map (fun i => (i.zero, i.size, i.bytes)) = some (some z, e, bytes)) (hz : z.cells.size = e) : TI P el e bytes := by
  cases hi : P.info? el with
  | none => rw [hi] at h; cases h
  | some i =>
    rw [hi] at h
    simp only [Option.map_some, Option.some.injEq, Prod.mk.injEq] at h
    exact ⟨i, z, hi, h.1, h.2.1, h.2.2, hz⟩
theorem Valid.app {x y : Operand} {t el : TypeId} {id e n m bytes : Nat} {xs ys : List Value} (ho : o.op = .call { callee := .builtin .append, args := #[x, y], argTypes := #[t, t] })
    (ht : P.underlying t = some (.slice el)) (hi : TI P el e bytes) (hsz : 0 < e) (hx : ρ x = Own id e n xs) (hh : h id = some (.row el e n xs)) (hy : Reads (ρ y) e m ys) (h1 : ∀ u ∈ ys, u.oneCell' = true) (hm : n + m ≤ maxLen) (hb : (n + m) * bytes ≤ 140737488355328) :
    Valid P nid o ρ h ⟨Own (8 * nid) e (n + m) (xs ++ ys), [id], [(id, none), (8 * nid, some (.row el e (n + m) (xs ++ ys)))]⟩ := by
  obtain ⟨i, z, h2, h3, h4, h5, h6⟩ := hi
  exact .append ho ht h2 h3 h4 h5 h6 hsz hx hh hy h1 hm hb
theorem Valid.appnil {x y : Operand} {t el : TypeId} {e m bytes : Nat} {ys : List Value} (ho : o.op = .call { callee := .builtin .append, args := #[x, y], argTypes := #[t, t] })
    (ht : P.underlying t = some (.slice el)) (hi : TI P el e bytes) (hsz : 0 < e) (hx : ρ x = Is (.slice none 0 0)) (hy : Reads (ρ y) e m ys) (h1 : ∀ u ∈ ys, u.oneCell' = true) (hm : m ≤ maxLen) (hb : m * bytes ≤ 140737488355328) :
    Valid P nid o ρ h ⟨Own (8 * nid) e m ys, [], [(8 * nid, some (.row el e m ys))]⟩ := by
  obtain ⟨i, z, h2, h3, h4, h5, h6⟩ := hi
  exact .appendnil ho ht h2 h3 h4 h5 h6 hsz hx hy h1 hm hb
theorem one_map {G : Type} {f : G → Value} {l : List G} (hf : ∀ x, (f x).oneCell' = true) : ∀ u ∈ l.map f, u.oneCell' = true := fun u hu => by
  obtain ⟨x, _, rfl⟩ := List.mem_map.1 hu
  exact hf x
theorem one_cons {v : Value} {l : List Value} (h : v.oneCell' = true) (hl : ∀ u ∈ l, u.oneCell' = true) : ∀ u ∈ v :: l, u.oneCell' = true := fun u hu => by
  rcases List.mem_cons.1 hu with rfl | hu
  · exact h
  · exact hl u hu
theorem one_nil : ∀ u ∈ ([] : List Value), u.oneCell' = true := fun u hu => by cases hu
def pairs : Nat → List Value → List (Nat × Value)
  | _, [] => []
  | k, v :: l => (k, v) :: pairs (k + 1) l
theorem Valid.lit {t el : TypeId} {n : Nat} {parts : Array (Nat × Operand)} (vs : List Value) (ho : o.op = .buildSlice t n parts)
    (hp : parts.toList.map (fun x => (x.1, ρ x.2)) = (pairs 0 vs).map (fun x => (x.1, Is x.2)))
    (hrun : ∀ w : World, (Instr.buildSlice t n (pairs 0 vs).toArray).run P w = .ok (.slice (some ⟨w.heap.size, 0, none⟩) n n) (w.alloc (.cells vs.toArray el))) (hl : vs.length = n) (hn : n ≤ maxLen) :
    Valid P nid o ρ h ⟨Sl 1 n vs, [], []⟩ := .buildslice (pairs 0 vs) vs ho hp hrun (by omega) hn
theorem Valid.struct {t : TypeId} {parts : Array (Nat × Operand)} (vs : List Value) (ho : o.op = .build t parts)
    (hp : parts.toList.map (fun x => (x.1, ρ x.2)) = (pairs 0 vs).map (fun x => (x.1, Is x.2)))
    (hrun : ∀ w : World, (Instr.build t (pairs 0 vs).toArray).run P w = .ok (.agg vs.toArray) w) : Valid P nid o ρ h ⟨Agg (vs.map Is), [], []⟩ := .build (pairs 0 vs) vs ho hp hrun
theorem Valid.shl {t t' : TypeId} {x y : Operand} {k k' : IntKind} {a b : Int} (ho : o.op = .binOp .shl t x y t') (hx : ρ x = Is (.int k a)) (hy : ρ y = Is (.int k' b)) (h1 : 0 ≤ b) (h2 : b.toNat ≤ k.bits) (hr : Room k (a * 2 ^ b.toNat)) : Valid P nid o ρ h ⟨Is (.int k (a * 2 ^ b.toNat)), [], []⟩ := by
  have := Valid.shlw (P := P) (nid := nid) (h := h) ho hx hy h1
  rw [Nat.min_eq_left h2] at this
  rwa [hr] at this
section cuts
variable {G : Type} {x y z : Operand} {t el : TypeId} {n : Nat} {f : G → Value} {l : List G} {k k' : IntKind} {i j : Int}
theorem Valid.slice1 (ho : o.op = .slice t x (some y) (some z) none) (ht : P.underlying t = some (.slice el)) (hsz : ∀ w, (sizeOf el).run P w = .ok 1 w) (hx : Reads (ρ x) 1 n (l.map f)) (hy : ρ y = Is (.int k i)) (hz : ρ z = Is (.int k' j))
    (hi : 0 ≤ i ∧ i ≤ j ∧ j ≤ n) : Valid P nid o ρ h ⟨Sl 1 (j.toNat - i.toNat) (((l.drop i.toNat).take (j.toNat - i.toNat)).map f), [], []⟩ := by
  have := Valid.slice (P := P) (nid := nid) (h := h) ho ht hsz hx hy hz hi
  simpa [List.map_take, List.map_drop] using this
theorem Valid.sliceto1 (ho : o.op = .slice t x none (some z) none) (ht : P.underlying t = some (.slice el)) (hsz : ∀ w, (sizeOf el).run P w = .ok 1 w) (hx : Reads (ρ x) 1 n (l.map f)) (hz : ρ z = Is (.int k' j))
    (hi : 0 ≤ j ∧ j ≤ n) : Valid P nid o ρ h ⟨Sl 1 j.toNat ((l.take j.toNat).map f), [], []⟩ := by
  have := Valid.sliceto (P := P) (nid := nid) (h := h) ho ht hsz hx hz hi
  simpa [List.map_take] using this
theorem Valid.slicefrom1 (ho : o.op = .slice t x (some y) none none) (ht : P.underlying t = some (.slice el)) (hsz : ∀ w, (sizeOf el).run P w = .ok 1 w) (hx : Reads (ρ x) 1 n (l.map f)) (hy : ρ y = Is (.int k i))
    (hi : 0 ≤ i ∧ i ≤ n) : Valid P nid o ρ h ⟨Sl 1 (n - i.toNat) ((l.drop i.toNat).map f), [], []⟩ := by
  have := Valid.slicefrom (P := P) (nid := nid) (h := h) ho ht hsz hx hy hi
  simpa [List.map_drop] using this
end cuts
end
/-! ### to and from contracts of the older form -/
theorem FPure.of_below {P : Program} {f : FuncId} {vs : List Value} {v : Value} (hent : ∀ (args : Array Value) (w : World), (callFunc f args).run P w = .ok (.enter f args) w) (h : ∀ w, Calls P f vs.toArray w fun e w' => e = .returned v ∧ Below w.heap.size w w') : FPure P f (vs.map Is) (Is v) where
  sup := rfl
  ent := hent
  calls := fun σ κ us hus => by
    have key : ∀ (l m : List Value), All2 σ κ (l.map Is) m → m = l := by
      intro l
      induction l with
      | nil => intro m hm; cases m with
        | nil => rfl
        | cons _ _ => exact hm.elim
      | cons a l ih => intro m hm; cases m with
        | nil => exact hm.elim
        | cons b m =>
          have h1 : b = a := hm.1
          rw [h1, ih m hm.2]
    rw [key vs us hus]
    refine (h κ.w).mono ?_
    rintro e w' ⟨rfl, hb⟩
    refine ⟨v, ⟨w', κ.own, fun b k hk => Nat.lt_of_lt_of_le (κ.lt b k hk) hb.size⟩, rfl, rfl, ⟨hb.os, hb.tape, hb.output, hb.size, fun b hlt ho => ⟨ho, hb.block b hlt⟩, fun b k ho => ⟨fun k' hk' => ?_, fun j u _ hu => ?_⟩⟩, fun b hlt => ⟨rfl, hb.block b hlt⟩, rfl⟩
    · have : κ.own b = some k' := hk'
      rw [ho] at this; cases this; exact Nat.le_refl _
    · have := hb.block b (κ.lt b k ho)
      simp only [World.cell?] at hu ⊢
      rw [this]; exact hu
def Kw.plain (w : World) : Kw := ⟨w, fun _ => none, fun _ _ h => by cases h⟩
theorem SlP.of_kit {w : World} {e n : Nat} {xs : List Value} {v : Value} (h : Kit.Sl w e v n xs) : SlP (Kw.plain w) e n xs v := by
  obtain ⟨hl, h | ⟨a, c, rfl, h1, h2, hc⟩⟩ := h
  · exact ⟨hl, .inl h⟩
  · exact ⟨hl, .inr ⟨a, c, rfl, h1, h2, fun j u hj => ⟨(hc j u hj).1, (hc j u hj).2, fun k hk => by cases hk⟩⟩⟩
theorem FPure.below {P : Program} {f : FuncId} {args : List AV} {v : Value} (h : FPure P f args (Is v)) {w : World} {vs : List Value} (ha : All2 (fun _ => undef) (Kw.plain w) args vs) : Calls P f vs.toArray w fun e w' => e = .returned v ∧ Below w.heap.size w w' :=
  (h.calls _ _ _ ha).mono fun e w' ⟨u, κ', he, hw, hle, hold, hA⟩ => by
    have hA : u = v := hA
    subst hA hw
    exact ⟨he, hle.os, hle.tape, hle.output, hle.size, fun b hb => (hold b hb).2⟩
end Ab
end Go.Proofs.Ytmilegikgbmjpaa
