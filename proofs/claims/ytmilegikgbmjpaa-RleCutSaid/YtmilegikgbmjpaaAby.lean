/-
  RANGES OVER FUNCTIONS: forms for the writer of walks.
-/
import Derived.Test.YtmilegikgbmjpaaAbx
namespace Go.Proofs.Ytmilegikgbmjpaa
open Go.RowKit
namespace Ab
theorem hp_idx {hp : Heap} {θ : Nat → Nat} {k : Nat} {I : ItC} {a b : Nat} (h : hp (θ k) = some (.idx I a)) (e : a = b) : ∃ c, hp (θ k) = some c ∧ Chunk.leq θ c (.idx I b) := ⟨_, h, .idx e⟩
theorem VOp.yieldx {P : Program} {nid : Nat} {o : Oper} {ρ : Operand → AV} {h : Heap} {fo : Operand} {xs : Array Operand} {ts : Array TypeId} {l n : Nat} {vals : Nat → List AV} {go : Nat → Bool} {k : Nat} (ho : o.op = .call { callee := .value fo, args := xs, argTypes := ts }) (hf : ρ fo = Is (.func (.yield l) #[] #[])) (hk : h 0 = some (.idx ⟨l, n, vals, go⟩ k)) (hn : k < n) (hgo : ∀ j, j < k → go j = true)
    (ha : argsLe ρ xs.toList (vals k)) (hs : (vals k).flatMap AV.sup = []) : VOp P nid o ρ h ⟨Is (.bool (go k)), [0], [(0, some (.idx ⟨l, n, vals, go⟩ (k + 1)))]⟩ := VOp.yield (I := ⟨l, n, vals, go⟩) ho hf hk hn hgo ha hs
theorem W_scope0 {P : Program} {N : Nat} {st : St} {Q : Exit → St → Prop} {c : Code} (h : W P N c st (JumpsQ (fun _ _ _ => False) none Q)) : W P N (.scope c) st Q := W_scopeN (fun _ _ _ => False) (fun _ _ _ h => h.elim) h
/-- what a function has caught, one variable of it turned no more -/
def FrzL (id : Nat) (vs : List Value) : List AV → List AV → Prop
  | [], [] => True
  | A :: l, B :: m => (A = B ∨ (A = Ptr id 0 ∧ B = Fz vs)) ∧ FrzL id vs l m
  | _, _ => False
theorem FrzL.all2 {id : Nat} {vs : List Value} {σ : Names} {κ : Kw} (hz : ∀ b, σ id = .pointer (some ⟨b, 0, none⟩) → b < κ.w.heap.size ∧ κ.own b = none ∧ ∀ j v, vs[j]? = some v → κ.w.cell? ⟨b, j, none⟩ = some v) : ∀ {l m : List AV} {us : List Value}, FrzL id vs l m → All2 σ κ l us → All2 σ κ m us
  | [], [], [], _, _ => trivial
  | A :: l, B :: m, u :: us, ⟨h1, h2⟩, ⟨h3, h4⟩ => ⟨by
      rcases h1 with rfl | ⟨rfl, rfl⟩
      · exact h3
      · exact frz_box h3 hz, FrzL.all2 hz h2 h4⟩
  | [], [], _ :: _, _, h => h
  | _ :: _, _ :: _, [], _, h => h.elim
  | [], _ :: _, _, h, _ => h.elim
  | _ :: _, [], _, h, _ => h.elim
theorem FrzL.sup {id : Nat} {vs : List Value} : ∀ {l m : List AV}, FrzL id vs l m → ∀ s ∈ m.flatMap AV.sup, s ∈ l.flatMap AV.sup
  | [], [], _, s, hs => hs
  | A :: l, B :: m, ⟨h1, h2⟩, s, hs => by
    rw [List.flatMap_cons, List.mem_append] at hs ⊢
    rcases h1 with rfl | ⟨rfl, rfl⟩
    · exact hs.imp (fun h => h) (FrzL.sup h2 s)
    · rcases hs with hs | hs
      · cases hs
      · exact .inr (FrzL.sup h2 s hs)
  | [], _ :: _, h, _, _ => h.elim
  | _ :: _, [], h, _, _ => h.elim
theorem Ent.freezeF {st : St} (k id : Nat) {t : TypeId} {vs : List Value} {f : FuncId} {caps caps' : List AV} (hh : st.heap id = some (.var t (vs.map Is))) (hk : st.env k = FnV f [] caps) (hz : FrzL id vs caps caps') : Ent st ⟨upd st.env k (FnV f [] caps'), upd st.heap id none, st.cnt⟩ := by
  refine Ent.freezeB k id hh (fun σ κ v hv hb => ?_) (fun s hs => ?_)
  · rw [hk] at hv
    obtain ⟨us, ws, h1, h2, h3⟩ := hv
    exact ⟨us, ws, h1, h2, hz.all2 hb h3⟩
  · rw [hk]
    exact hz.sup s hs
theorem leq_fz {θ : Nat → Nat} {A B : AV} {xs ys : List Value} (h : A = Fz xs) (h' : B = Fz ys) (e : xs = ys) : A.leq θ B := fun σ κ u hu => by
  subst h h' e; exact hu
section
variable {P : Program} {nid : Nat} {o : Oper} {ρ : Operand → AV} {h : Heap} {c x y : Operand} {β : Bool} {A : AV}
theorem Valid.pickY (ho : o.op = .pick c x y) (hc : ρ c = Is (.bool β)) (hβ : β = true) (hx : ρ x = A) : Valid P nid o ρ h ⟨A, [], []⟩ :=
  .quiet _ (fun s hs => ⟨x, by rw [ho]; simp [Op.operands], by rw [hx]; exact hs⟩) fun σ κ a hops => by
    have e1 := hops c (by rw [ho]; simp [Op.operands])
    have e2 := hops x (by rw [ho]; simp [Op.operands])
    rw [hc] at e1; rw [hx] at e2
    have e1 : a.eval c = .bool β := e1
    subst hβ
    refine ⟨a.eval x, ?_, e2⟩
    unfold execOp
    rw [ho]
    simp [e1, asBool]
theorem Valid.pickN (ho : o.op = .pick c x y) (hc : ρ c = Is (.bool β)) (hβ : β = false) (hy : ρ y = A) : Valid P nid o ρ h ⟨A, [], []⟩ :=
  .quiet _ (fun s hs => ⟨y, by rw [ho]; simp [Op.operands], by rw [hy]; exact hs⟩) fun σ κ a hops => by
    have e1 := hops c (by rw [ho]; simp [Op.operands])
    have e2 := hops y (by rw [ho]; simp [Op.operands])
    rw [hc] at e1; rw [hy] at e2
    have e1 : a.eval c = .bool β := e1
    subst hβ
    refine ⟨a.eval y, ?_, e2⟩
    unfold execOp
    rw [ho]
    simp [e1, asBool]
end
end Ab
end Go.Proofs.Ytmilegikgbmjpaa
