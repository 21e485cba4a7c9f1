/-
  CONTRACTS of package bits: need, caught and its deferred closure.
-/
import Derived.Test.YtabhnnighhglfaaBr
import Derived.Defers
import Derived.Recover
namespace Go.Proofs.Ytabhnnighhglfaa
open Go.RowKit
namespace Bt
/-- what goes up -/
def up (x : Int) : List PanicEntry := [{ v := .iface 68 (.agg #[.int .i64 x]), recovered := false }]
theorem need_ok (x : Int) (w : World) : Calls Try.prog 29 #[.bool true, .int .i64 x] w fun e w' => e = .returned (.tuple #[]) ∧ w = w' := by
  go_enter Try.func29, Try.ntmps29
  go_wp2
  go_end0
  exact ⟨rfl, rfl⟩
theorem need_no (x : Int) (w : World) : Calls Try.prog 29 #[.bool false, .int .i64 x] w fun e w' => e = .panicked (up x) ∧ w = w' := by
  go_enter Try.func29, Try.ntmps29
  go_wp2
  exact ⟨rfl, rfl, rfl⟩
theorem need_at (b : Bool) (x : Int) (w : World) : Calls Try.prog 29 #[.bool b, .int .i64 x] w fun e w' => e = (if b then .returned (.tuple #[]) else .panicked (up x)) ∧ w = w' := by
  cases b
  · exact need_no x w
  · exact need_ok x w
theorem catch_panicking (p : Addr) (x y : Int) (w : World) (hc : w.cell? p = some (.int .i64 y)) (hz : w.frozen? p = false) (hp : p.block < w.heap.size) :
    CallsD Try.prog 40 #[.pointer (some p)] (.panicking (up x)) w fun e u' w' =>
      e = .returned (.tuple #[]) ∧ u' = .panicking [{ v := .iface 68 (.agg #[.int .i64 x]), recovered := true }] ∧ ∃ w0, Below w.heap.size w w0 ∧ w' = w0.setCell p (.int .i64 x) := by
  have hta : ∀ w : World, (Instr.typeAssert (.iface 68 (.agg #[.int .i64 x])) 20 68 true).run Try.prog w = .ok (.tuple #[.agg #[.int .i64 x], .bool true]) w := fun _ => by kernel_rfl
  refine callsD_of_wpS Try.func40 rfl fun c₀ cs hu => ?_
  apply wpS_seq
  apply wpS_region
  simp [wpOpsS, go_sem, hta, recoverD, hu, up, Try.ntmps40, Exit.thenS]
  apply wpS_seq
  apply wpS_region
  simp [wpOpsS, go_sem, Exit.thenS]
  refine wpS_cond (t := true) (by simp [Act.eval, Array.replicate]) ?_
  simp only [if_true]
  refine wpS_of_wp ?_
  have hz2 := (((Below.refl w.heap.size w).alloc (Nat.le_refl _) (.cells #[.int .i64 x] 68)).frozen hp).trans hz
  go_wp2
  simp [bodyPostS, results, Try.results40]
  exact ⟨_, (Below.refl w.heap.size w).alloc (Nat.le_refl _) _, rfl⟩
theorem catch_idle (p : Addr) (w : World) :
    CallsD Try.prog 40 #[.pointer (some p)] .returning w fun e u' w' => e = .returned (.tuple #[]) ∧ u' = .returning ∧ Below w.heap.size w w' := by
  have hta : ∀ w : World, (Instr.typeAssert .nilIface 20 68 true).run Try.prog w = .ok (.tuple #[.agg #[.int .i64 0], .bool false]) w := fun _ => by kernel_rfl
  refine callsD_of_wpS Try.func40 rfl fun c₀ cs hu => ?_
  apply wpS_seq
  apply wpS_region
  simp [wpOpsS, go_sem, hta, recoverD, hu, Try.ntmps40, Exit.thenS]
  apply wpS_seq
  apply wpS_region
  simp [wpOpsS, go_sem, Exit.thenS]
  refine wpS_cond (t := false) (by simp [Act.eval, Array.replicate]) ?_
  simp only [Bool.false_eq_true, if_false]
  refine wpS_of_wp (wp_skip ?_)
  cases c₀
  simp_all [bodyPostS, results, Try.results40]
  exact (Below.refl w.heap.size w).alloc (Nat.le_refl _) _
/-- the cell that caught makes -/
abbrev made (w : World) : World := w.alloc (.cells #[.int .i64 0] 26)
theorem caught_ret (K : FuncId) (cap : Array Value) (w : World) (R : World → Prop) (hent : ∀ w : World, (callFunc K cap).run Try.prog w = .ok (.enter K cap) w)
    (hcall : Calls Try.prog K cap (made w) fun e w' => e = .returned (.tuple #[]) ∧ R w')
    (hR : ∀ w', R w' → w'.cell? ⟨w.heap.size, 0, none⟩ = some (.int .i64 0) ∧ w'.frozen? ⟨w.heap.size, 0, none⟩ = false ∧ w.heap.size < w'.heap.size) :
    Calls Try.prog 32 #[.func (.func K) #[] cap] w fun e w' => e = .returned (.int .i64 0) ∧ ∃ w1, R w1 ∧ Below w1.heap.size (w1.setCell ⟨w.heap.size, 0, none⟩ (.int .i64 0)) w' := by
  have hmf : ∀ (fn : Fn) (first cap : Array Value) (w : World), (Instr.makeFunc fn first cap).run Try.prog w = .ok (.func fn first cap) w := fun _ _ _ _ => rfl
  go_enter_defers Try.func32, Try.ntmps32
  go_wp2
  refine hcall.mono ?_
  rintro e w1 ⟨rfl, h1⟩
  obtain ⟨hc1, hz1, hs1⟩ := hR w1 h1
  go_wp2
  refine leaves_cons (f := 40) (args := #[.pointer (some ⟨w.heap.size, 0, none⟩)]) (by simp) (by simp [go_sem]) ?_
  refine (catch_idle ⟨w.heap.size, 0, none⟩ _).mono ?_
  rintro e u' w2 ⟨rfl, rfl, hb⟩
  simp only [World.size_setCell] at hb
  have hc2 : w2.cell? ⟨w.heap.size, 0, none⟩ = some (.int .i64 0) := by
    rw [hb.cell hs1]
    exact World.cell?_setCell_same _ _ _ hc1
  simp [Leaves, settle, results, Try.results32, go_sem, hc2]
  exact ⟨w1, h1, by simpa using hb⟩
theorem caught_up (K : FuncId) (cap : Array Value) (x : Int) (w : World) (R : World → Prop) (hent : ∀ w : World, (callFunc K cap).run Try.prog w = .ok (.enter K cap) w)
    (hcall : Calls Try.prog K cap (made w) fun e w' => e = .panicked (up x) ∧ R w')
    (hR : ∀ w', R w' → w'.cell? ⟨w.heap.size, 0, none⟩ = some (.int .i64 0) ∧ w'.frozen? ⟨w.heap.size, 0, none⟩ = false ∧ w.heap.size < w'.heap.size) :
    Calls Try.prog 32 #[.func (.func K) #[] cap] w fun e w' => e = .returned (.int .i64 x) ∧ ∃ w1, R w1 ∧ Below w.heap.size w1 w' := by
  have hmf : ∀ (fn : Fn) (first cap : Array Value) (w : World), (Instr.makeFunc fn first cap).run Try.prog w = .ok (.func fn first cap) w := fun _ _ _ _ => rfl
  go_enter_defers Try.func32, Try.ntmps32
  go_wp2
  refine hcall.mono ?_
  rintro e w1 ⟨rfl, h1⟩
  obtain ⟨hc1, hz1, hs1⟩ := hR w1 h1
  go_wp2
  refine leaves_cons (f := 40) (args := #[.pointer (some ⟨w.heap.size, 0, none⟩)]) (by simp) (by simp [go_sem]) ?_
  refine (catch_panicking ⟨w.heap.size, 0, none⟩ x 0 w1 hc1 hz1 hs1).mono ?_
  rintro e u' w2 ⟨rfl, rfl, w0, hb, rfl⟩
  have hc2 : w0.cell? ⟨w.heap.size, 0, none⟩ = some (.int .i64 0) := by
    rw [hb.cell hs1]; exact hc1
  simp [Leaves, settle, results, Try.results32, go_sem, hc2]
  exact ⟨w1, h1, Below.setCell (hb.mono (Nat.le_of_lt hs1)) (p := ⟨w.heap.size, 0, none⟩) (Nat.le_refl _) _⟩
end Bt
end Go.Proofs.Ytabhnnighhglfaa
