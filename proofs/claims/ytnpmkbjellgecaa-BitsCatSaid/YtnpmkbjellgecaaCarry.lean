/-
  FACTS KEPT OVER A CALL: 'replace a0 := Kit.keep_cell a0 hb' (hb : Below w.heap.size w w'); 'cell_at', 'size_at', 'off_alloc' for a block made ahead of the call.
-/
import Derived.Test.YtnpmkbjellgecaaKit
namespace Go.Proofs.Ytnpmkbjellgecaa
open Go.RowKit
namespace Kit
theorem keep_cell {w w' : World} {p : Addr} {u : Value} (h : w.cell? p = some u) (hb : Below w.heap.size w w') : w'.cell? p = some u := by
  obtain ⟨b, o, sp⟩ := p
  rw [hb.cell (p := ⟨b, o, sp⟩) (lt_of_cell h)]; exact h
theorem lt_of_cell' {w : World} {p : Addr} {u : Value} (h : w.cell? p = some u) : p.block < w.heap.size := by
  obtain ⟨b, o, sp⟩ := p
  exact lt_of_cell h
theorem keep_frozen {w w' : World} {p : Addr} (h : w.frozen? p = false) (hb : Below w.heap.size w w') (hp : p.block < w.heap.size) : w'.frozen? p = false := by
  rw [hb.frozen hp]; exact h
theorem keep_lt {w w' : World} {n : Nat} (h : n < w.heap.size) (hb : Below w.heap.size w w') : n < w'.heap.size := Nat.lt_of_lt_of_le h hb.size
theorem off_alloc {w w' : World} {o : Obj} (hb : Below (w.alloc o).heap.size (w.alloc o) w') : Below w.heap.size w w' :=
  ((Below.refl w.heap.size w).alloc (Nat.le_refl _) _).trans (hb.mono (by simp))
theorem cell_at {w w' : World} {cs : Array Value} {t : TypeId} (hb : Below (w.alloc (.cells cs t)).heap.size (w.alloc (.cells cs t)) w') (j : Nat) (u : Value) (h : cs[j]? = some u) : w'.cell? ⟨w.heap.size, j, none⟩ = some u := by
  rw [hb.cell (by simp)]
  have : (w.alloc (.cells cs t)).heap[w.heap.size]? = some (.cells cs t (0, 0)) := heap_alloc_new _ _
  unfold World.cell?
  simp only
  rw [this]
  simpa using h
theorem frozen_at {w w' : World} {cs : Array Value} {t : TypeId} (hb : Below (w.alloc (.cells cs t)).heap.size (w.alloc (.cells cs t)) w') (j : Nat) : w'.frozen? ⟨w.heap.size, j, none⟩ = false := by
  rw [hb.frozen (by simp)]
  have : (w.alloc (.cells cs t)).heap[w.heap.size]? = some (.cells cs t (0, 0)) := heap_alloc_new _ _
  unfold World.frozen?
  simp only
  rw [this]
  simp
theorem size_at {w w' : World} {o : Obj} (hb : Below (w.alloc o).heap.size (w.alloc o) w') : w.heap.size < w'.heap.size := Nat.lt_of_lt_of_le (by simp) hb.size

end Kit
end Go.Proofs.Ytnpmkbjellgecaa
