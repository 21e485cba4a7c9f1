/-
  'carry hb': hb : Below w.heap.size w w'. Each fact 'w.cell? p = some u', 'w.frozen? p = false' of the context becomes one on w'.
  'carry_new hb a': hb : Below (w.alloc o).heap.size (w.alloc o) w': so for w; the new block's cells under the names a0, a1, ..; hb becomes Below w.heap.size w w'.
-/
import Derived.Test.YtkmkogkfahepjaaKit
namespace Go.Proofs.Ytkmkogkfahepjaa
open Go.RowKit Lean Meta Elab Tactic
namespace Kit
theorem keep_cell {w w' : World} {p : Addr} {u : Value} (h : w.cell? p = some u) (hb : Below w.heap.size w w') : w'.cell? p = some u := by
  obtain ⟨b, o, sp⟩ := p
  rw [hb.cell (p := ⟨b, o, sp⟩) (lt_of_cell h)]; exact h
theorem lt_of_cell' {w : World} {p : Addr} {u : Value} (h : w.cell? p = some u) : p.block < w.heap.size := by
  obtain ⟨b, o, sp⟩ := p
  exact lt_of_cell h
theorem keep_frozen {w w' : World} {p : Addr} (h : w.frozen? p = false) (hb : Below w.heap.size w w') (hp : p.block < w.heap.size) : w'.frozen? p = false := by
  rw [hb.frozen hp]; exact h
theorem keep_lt {w w' : World} {n : Nat} (h : n < w.heap.size) (hb : Below w.heap.size w w') : n < w'.heap.size := Nat.lt_of_lt_of_le h hb.size
theorem off_alloc {w w' : World} {o : Obj} (hb : Below (w.alloc o).heap.size (w.alloc o) w') : Below w.heap.size w w' :=
  ((Below.refl w.heap.size w).alloc (Nat.le_refl _) _).trans (hb.mono (by simp))
theorem cell_at {w w' : World} {cs : Array Value} {t : TypeId} (hb : Below (w.alloc (.cells cs t)).heap.size (w.alloc (.cells cs t)) w') (j : Nat) (u : Value) (h : cs[j]? = some u) : w'.cell? ⟨w.heap.size, j, none⟩ = some u := by
  rw [hb.cell (by simp)]
  have : (w.alloc (.cells cs t)).heap[w.heap.size]? = some (.cells cs t (0, 0)) := heap_alloc_new _ _
  unfold World.cell?
  simp only
  rw [this]
  simpa using h
theorem frozen_at {w w' : World} {cs : Array Value} {t : TypeId} (hb : Below (w.alloc (.cells cs t)).heap.size (w.alloc (.cells cs t)) w') (j : Nat) : w'.frozen? ⟨w.heap.size, j, none⟩ = false := by
  rw [hb.frozen (by simp)]
  have : (w.alloc (.cells cs t)).heap[w.heap.size]? = some (.cells cs t (0, 0)) := heap_alloc_new _ _
  unfold World.frozen?
  simp only
  rw [this]
  simp
theorem size_at {w w' : World} {o : Obj} (hb : Below (w.alloc o).heap.size (w.alloc o) w') : w.heap.size < w'.heap.size := Nat.lt_of_lt_of_le (by simp) hb.size

def carryOne (hb : FVarId) : TacticM Unit := withMainContext do
  let hbE := mkFVar hb
  let ty ← instantiateMVars (← hb.getType)
  let w := ty.getAppArgs[1]!
  for d in ← getLCtx do
    if d.isImplementationDetail then continue
    let t ← instantiateMVars d.type
    let pf? ← (do
      if t.isAppOfArity ``Eq 3 then
        let l := t.getArg! 1
        if l.isAppOfArity ``World.cell? 2 && l.getArg! 0 == w then
          return some (← mkAppM ``keep_cell #[d.toExpr, hbE])
        return none
      else if t.isAppOfArity ``LT.lt 4 then
        let r := t.getArg! 3
        if r == mkApp2 (mkConst ``Array.size [Level.zero]) (mkConst ``Obj) (mkApp (mkConst ``World.heap) w) then
          return some (← mkAppM ``keep_lt #[d.toExpr, hbE])
        return none
      else return none)
    if let some pf := pf? then
      let g ← getMainGoal
      let g ← g.assert d.userName (← inferType pf) pf
      let (_, g) ← g.intro1P
      let g ← g.tryClear d.fvarId
      replaceMainGoal [g]
elab "carry " h:ident : tactic => withMainContext do
  let d ← getLocalDeclFromUserName h.getId
  carryOne d.fvarId
/-- hb: 'Below B w w'' with B = w.heap.size; Hb: Hid (Below B0 w0 w): becomes Hid (Below B0 w0 w') -/
macro "carried " hb:ident Hb:ident : tactic => `(tactic| (
  carry $hb
  replace $Hb := Lib.hid (Below.trans (Hid.out $Hb) (Below.mono $hb (Below.size (Hid.out $Hb))))
  clear $hb))
end Kit
end Go.Proofs.Ytkmkogkfahepjaa
