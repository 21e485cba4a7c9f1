/-
  CONTRACTS of package bits: the closures, grown, Put.
-/
import Derived.Test.YtabhnnighhglfaaBj
namespace Go.Proofs.Ytabhnnighhglfaa
open Go.RowKit
namespace Bt
open Bm
def bv (l : List Bool) : Value := .agg #[.string (pack l), .int .i64 (l.length : Int)]
def noBits : Value := .agg #[.string ⟨#[]⟩, .int .i64 0]
/-- the world in which grown's function is called -/
def gw (f : Value) (w : World) : World := ((w.alloc (.cells #[f] 57)).alloc (.cells #[.string ⟨#[]⟩, .int .i64 0] 37)).alloc (.cells #[.slice none 0 0, .int .i64 0] 64)
theorem gw_size (f : Value) (w : World) : (gw f w).heap.size = w.heap.size + 3 := by simp [gw]
theorem new_cell {w : World} {cs : Array Value} {t : TypeId} {b j : Nat} (h : b = w.heap.size) : (w.alloc (.cells cs t)).cell? ⟨b, j, none⟩ = cs[j]? := by
  subst h
  have : (w.alloc (.cells cs t)).heap[w.heap.size]? = some (.cells cs t (0, 0)) := heap_alloc_new _ _
  unfold World.cell?
  simp only
  rw [this]
  simp
theorem new_frozen {w : World} {cs : Array Value} {t : TypeId} {b j : Nat} (h : b = w.heap.size) : (w.alloc (.cells cs t)).frozen? ⟨b, j, none⟩ = false := by
  subst h
  have : (w.alloc (.cells cs t)).heap[w.heap.size]? = some (.cells cs t (0, 0)) := heap_alloc_new _ _
  unfold World.frozen?
  simp only
  rw [this]
  simp
theorem old_cell {w : World} {o : Obj} {p : Addr} (h : p.block < w.heap.size) : (w.alloc o).cell? p = w.cell? p := ((Below.refl w.heap.size w).alloc (Nat.le_refl _) o).cell h
theorem old_frozen {w : World} {o : Obj} {p : Addr} (h : p.block < w.heap.size) : (w.alloc o).frozen? p = w.frozen? p := ((Below.refl w.heap.size w).alloc (Nat.le_refl _) o).frozen h
theorem gw_below (f : Value) (w : World) : Below w.heap.size w (gw f w) :=
  (((Below.refl w.heap.size w).alloc (Nat.le_refl _) _).alloc (by simp) _).alloc (by simp; omega) _
theorem gw_row (f : Value) (w : World) : RowAt (made (gw f w)) (w.heap.size + 2) (w.heap.size + 4) [] (.slice none 0 0) := by
  have hs := gw_size f w
  refine ⟨by omega, by simp [made, gw_size], ?_, ?_, ?_, ?_, World.ownsRow_nil _ _ _ _⟩
  · rw [made, old_cell (by rw [hs]; simp), gw, new_cell (by simp)]; rfl
  · rw [made, old_cell (by rw [hs]; simp), gw, new_cell (by simp)]; rfl
  · rw [made, old_frozen (by rw [hs]; simp), gw, new_frozen (by simp)]
  · rw [made, old_frozen (by rw [hs]; simp), gw, new_frozen (by simp)]
theorem RowAt.other {w : World} {rb base : Nat} {l : List Bool} {v : Value} (h : RowAt w rb base l v) {k off : Nat} (h1 : k ≠ rb) (h2 : k < base) (u : Value) : RowAt (w.setCell ⟨k, off, none⟩ u) rb base l v := by
  refine ⟨h.lt, by simpa using h.le, ?_, ?_, by simpa using h.z0, by simpa using h.z1, ownsRow_setCell_below h.own (a := ⟨k, off, none⟩) h2 u⟩
  · rw [World.cell?_setCell_other _ _ _ _ (by simp [])]; exact h.c0
  · rw [World.cell?_setCell_other _ _ _ _ (by simp [])]; exact h.c1
set_option maxRecDepth 100000 in
set_option maxHeartbeats 1000000 in
theorem grown1_at (K : FuncId) (cap : Array Value) (p q : Addr) (w : World) (R : Ending → World → Prop) (hc : w.cell? p = some (.func (.func K) #[] cap)) (hent : ∀ args, ∀ w : World, (callFunc K args).run Try.prog w = .ok (.enter K args) w)
    (hcall : Calls Try.prog K (#[.pointer (some q)] ++ cap) w R) (hR : ∀ e w', R e w' → (∃ v, e = .panicked v) ∨ e = .returned (.tuple #[])) :
    Calls Try.prog 37 #[.pointer (some p), .pointer (some q)] w R := by
  go_enter Try.func37, Try.ntmps37
  go_wp2
  refine hcall.mono ?_
  intro e w' hr
  rcases hR e w' hr with ⟨v, rfl⟩ | rfl
  · go_wp2
    exact ⟨rfl, hr⟩
  · go_wp2
    go_end0
    exact hr
set_option maxRecDepth 100000 in
set_option maxHeartbeats 1000000 in
theorem grown_ok (K : FuncId) (cap : Array Value) (l : List Bool) (w : World) (hent : ∀ args, ∀ w : World, (callFunc K args).run Try.prog w = .ok (.enter K args) w)
    (hcall : Calls Try.prog K (#[.pointer (some ⟨w.heap.size + 2, 0, none⟩)] ++ cap) (made (gw (.func (.func K) #[] cap) w)) fun e w' => e = .returned (.tuple #[]) ∧ (∃ s', RowAt w' (w.heap.size + 2) (w.heap.size + 4) l s') ∧ Kept (w.heap.size + 2) (w.heap.size + 4) (made (gw (.func (.func K) #[] cap) w)) w') :
    Calls Try.prog 26 #[.func (.func K) #[] cap] w fun e w' => e = .returned (.tuple #[bv l, .int .i64 0]) ∧ Below w.heap.size w w' := by
  have hmf : ∀ (fn : Fn) (first cap : Array Value) (w : World), (Instr.makeFunc fn first cap).run Try.prog w = .ok (.func fn first cap) w := fun _ _ _ _ => rfl
  have hs := gw_size (.func (.func K) #[] cap) w
  have hlay : (made (gw (.func (.func K) #[] cap) w)).cell? ⟨w.heap.size, 0, none⟩ = some (.func (.func K) #[] cap) := by
    rw [made, old_cell (by rw [hs]; simp), gw, old_cell (by simp; omega), old_cell (by simp), new_cell rfl]; rfl
  have h1 := grown1_at K cap ⟨w.heap.size, 0, none⟩ ⟨w.heap.size + 2, 0, none⟩ _ _ hlay hent hcall (fun e w' h => .inr h.1)
  have hsz : (gw (.func (.func K) #[] cap) w).heap.size = w.heap.size + 3 := hs
  have hcell : (made (gw (.func (.func K) #[] cap) w)).cell? ⟨w.heap.size + 3, 0, none⟩ = some (.int .i64 0) := by
    rw [made, new_cell hs.symm]; rfl
  have hfro : (made (gw (.func (.func K) #[] cap) w)).frozen? ⟨w.heap.size + 3, 0, none⟩ = false := by
    rw [made, new_frozen hs.symm]
  have h2 := caught_ret 37 #[.pointer (some ⟨w.heap.size, 0, none⟩), .pointer (some ⟨w.heap.size + 2, 0, none⟩)] (gw (.func (.func K) #[] cap) w) _ (fun _ => by kernel_rfl) h1 (by
    rintro w' ⟨⟨s', hr⟩, hk⟩
    rw [hs]
    refine ⟨?_, ?_, ?_⟩
    · rw [hk.cell (by simp) (.inl (by simp))]; exact hcell
    · rw [hk.frozen (by simp) (.inl (by simp))]; exact hfro
    · have := hr.le; omega)
  have H2 := Lib.hid h2
  have d0 : (made (gw (.func (.func K) #[] cap) w)).cell? ⟨w.heap.size + 1, 0, none⟩ = some (.string ⟨#[]⟩) := by
    rw [made, old_cell (by rw [hs]; simp), gw, old_cell (by simp), new_cell (by simp)]; rfl
  have d1 : (made (gw (.func (.func K) #[] cap) w)).cell? ⟨w.heap.size + 1, 1, none⟩ = some (.int .i64 0) := by
    rw [made, old_cell (by rw [hs]; simp), gw, old_cell (by simp), new_cell (by simp)]; rfl
  have e0 : (made (gw (.func (.func K) #[] cap) w)).frozen? ⟨w.heap.size + 1, 0, none⟩ = false := by
    rw [made, old_frozen (by rw [hs]; simp), gw, old_frozen (by simp), new_frozen (by simp)]
  have e1 : (made (gw (.func (.func K) #[] cap) w)).frozen? ⟨w.heap.size + 1, 1, none⟩ = false := by
    rw [made, old_frozen (by rw [hs]; simp), gw, old_frozen (by simp), new_frozen (by simp)]
  clear h1 h2 hlay hcall hcell hfro
  go_enter Try.func26, Try.ntmps26
  go_wp2_with fail
  refine H2.out.mono ?_
  rintro e w2 ⟨rfl, w1, ⟨⟨s', hr⟩, hk⟩, hb⟩
  rw [hs] at hb
  have hr2 : RowAt w2 (w.heap.size + 2) (w.heap.size + 4) l s' := (hr.other (k := w.heap.size + 3) (off := 0) (by omega) (by omega) (.int .i64 0)).below (by simpa using hb)
  have hle := hr.le
  have old : ∀ off, w2.cell? ⟨w.heap.size + 1, off, none⟩ = (made (gw (.func (.func K) #[] cap) w)).cell? ⟨w.heap.size + 1, off, none⟩ ∧ w2.frozen? ⟨w.heap.size + 1, off, none⟩ = (made (gw (.func (.func K) #[] cap) w)).frozen? ⟨w.heap.size + 1, off, none⟩ := by
    intro off
    constructor
    · rw [hb.cell (p := ⟨w.heap.size + 1, off, none⟩) (by simp; omega), World.cell?_setCell_other _ _ _ _ (by simp), hk.cell (by simp) (.inl (by simp))]
    · rw [hb.frozen (p := ⟨w.heap.size + 1, off, none⟩) (by simp; omega), World.frozen?_setCell, hk.frozen (by simp) (.inl (by simp))]
  have hB2 : Below w.heap.size w w2 := ((((gw_below (.func (.func K) #[] cap) w).alloc (by rw [hs]; omega) _).trans (hk.2.1.mono (by omega))).setCell (p := ⟨w.heap.size + 3, 0, none⟩) (by simp) _).trans (hb.mono (by omega))
  have HB2 := Lib.hid hB2
  have Hr2 := Lib.hid hr2
  have Hold := Lib.hid old
  have Hle2 : Hid (w.heap.size + 4 ≤ w2.heap.size) := hr2.le
  have Hd : Hid (_ ∧ _ ∧ _ ∧ _) := ⟨d0, d1, e0, e1⟩
  clear hr hk hb hr2 hle old hB2 d0 d1 e0 e1 hs hsz
  go_wp2_with fail
  refine (rowbits_at _ _ l s' w2 Hr2.out).mono ?_
  rintro e w3 ⟨rfl, hb3⟩
  have hle2 := Hle2.out
  have a0 : w3.cell? ⟨w.heap.size + 1, 0, none⟩ = some (.string ⟨#[]⟩) := by rw [hb3.cell (by simp; omega), (Hold.out 0).1]; exact Hd.out.1
  have a1 : w3.cell? ⟨w.heap.size + 1, 1, none⟩ = some (.int .i64 0) := by rw [hb3.cell (by simp; omega), (Hold.out 1).1]; exact Hd.out.2.1
  have f0 : w3.frozen? ⟨w.heap.size + 1, 0, none⟩ = false := by rw [hb3.frozen (by simp; omega), (Hold.out 0).2]; exact Hd.out.2.2.1
  have f1 : w3.frozen? ⟨w.heap.size + 1, 1, none⟩ = false := by rw [hb3.frozen (by simp; omega), (Hold.out 1).2]; exact Hd.out.2.2.2
  have HB3 : Hid (Below w.heap.size w w3) := HB2.out.trans (hb3.mono (by omega))
  clear hb3 Hold Hd
  go_wp2
  refine bodyPost_ret (v := .tuple #[bv l, .int .i64 0]) (by simp [results, Try.results26, go_sem, a0, a1, bv]) rfl ⟨rfl, ?_⟩
  exact (HB3.out.setCell (p := ⟨w.heap.size + 1, 0, none⟩) (by simp) _).setCell (p := ⟨w.heap.size + 1, 1, none⟩) (by simp) _
set_option maxRecDepth 100000 in
set_option maxHeartbeats 1000000 in
theorem grown_up (K : FuncId) (cap : Array Value) (x : Int) (w : World) (hx : x = 1 ∨ x = 2) (hent : ∀ args, ∀ w : World, (callFunc K args).run Try.prog w = .ok (.enter K args) w)
    (hcall : Calls Try.prog K (#[.pointer (some ⟨w.heap.size + 2, 0, none⟩)] ++ cap) (made (gw (.func (.func K) #[] cap) w)) fun e w' => e = .panicked (up x) ∧ Kept (w.heap.size + 2) (w.heap.size + 4) (made (gw (.func (.func K) #[] cap) w)) w') :
    Calls Try.prog 26 #[.func (.func K) #[] cap] w fun e w' => e = .returned (.tuple #[noBits, .int .i64 x]) ∧ Below w.heap.size w w' := by
  have hmf : ∀ (fn : Fn) (first cap : Array Value) (w : World), (Instr.makeFunc fn first cap).run Try.prog w = .ok (.func fn first cap) w := fun _ _ _ _ => rfl
  have hs := gw_size (.func (.func K) #[] cap) w
  have hlay : (made (gw (.func (.func K) #[] cap) w)).cell? ⟨w.heap.size, 0, none⟩ = some (.func (.func K) #[] cap) := by
    rw [made, old_cell (by rw [hs]; simp), gw, old_cell (by simp; omega), old_cell (by simp), new_cell rfl]; rfl
  have h1 := grown1_at K cap ⟨w.heap.size, 0, none⟩ ⟨w.heap.size + 2, 0, none⟩ _ _ hlay hent hcall (fun e w' h => .inl ⟨_, h.1⟩)
  have hcell : (made (gw (.func (.func K) #[] cap) w)).cell? ⟨w.heap.size + 3, 0, none⟩ = some (.int .i64 0) := by
    rw [made, new_cell hs.symm]; rfl
  have hfro : (made (gw (.func (.func K) #[] cap) w)).frozen? ⟨w.heap.size + 3, 0, none⟩ = false := by
    rw [made, new_frozen hs.symm]
  have h2 := caught_up 37 #[.pointer (some ⟨w.heap.size, 0, none⟩), .pointer (some ⟨w.heap.size + 2, 0, none⟩)] x (gw (.func (.func K) #[] cap) w) _ (fun _ => by kernel_rfl) h1 (by
    intro w' hk
    rw [hs]
    refine ⟨?_, ?_, ?_⟩
    · rw [hk.cell (by simp) (.inl (by simp))]; exact hcell
    · rw [hk.frozen (by simp) (.inl (by simp))]; exact hfro
    · have := hk.size; rw [made] at this; simp [hs] at this; omega)
  have H2 := Lib.hid h2
  have d0 : (made (gw (.func (.func K) #[] cap) w)).cell? ⟨w.heap.size + 1, 0, none⟩ = some (.string ⟨#[]⟩) := by
    rw [made, old_cell (by rw [hs]; simp), gw, old_cell (by simp), new_cell (by simp)]; rfl
  have d1 : (made (gw (.func (.func K) #[] cap) w)).cell? ⟨w.heap.size + 1, 1, none⟩ = some (.int .i64 0) := by
    rw [made, old_cell (by rw [hs]; simp), gw, old_cell (by simp), new_cell (by simp)]; rfl
  have e0 : (made (gw (.func (.func K) #[] cap) w)).frozen? ⟨w.heap.size + 1, 0, none⟩ = false := by
    rw [made, old_frozen (by rw [hs]; simp), gw, old_frozen (by simp), new_frozen (by simp)]
  have e1 : (made (gw (.func (.func K) #[] cap) w)).frozen? ⟨w.heap.size + 1, 1, none⟩ = false := by
    rw [made, old_frozen (by rw [hs]; simp), gw, old_frozen (by simp), new_frozen (by simp)]
  have hxn : (x != 0) = true := by rcases hx with rfl | rfl <;> rfl
  clear h1 h2 hlay hcall hcell hfro
  go_enter Try.func26, Try.ntmps26
  go_wp2_with fail
  refine H2.out.mono ?_
  rintro e w3 ⟨rfl, w1, hk, hb⟩
  rw [hs] at hb
  have old : ∀ off, w3.cell? ⟨w.heap.size + 1, off, none⟩ = (made (gw (.func (.func K) #[] cap) w)).cell? ⟨w.heap.size + 1, off, none⟩ ∧ w3.frozen? ⟨w.heap.size + 1, off, none⟩ = (made (gw (.func (.func K) #[] cap) w)).frozen? ⟨w.heap.size + 1, off, none⟩ := by
    intro off
    constructor
    · rw [hb.cell (p := ⟨w.heap.size + 1, off, none⟩) (by simp), hk.cell (by simp) (.inl (by simp))]
    · rw [hb.frozen (p := ⟨w.heap.size + 1, off, none⟩) (by simp), hk.frozen (by simp) (.inl (by simp))]
  have hB3 : Below w.heap.size w w3 := (((gw_below (.func (.func K) #[] cap) w).alloc (by rw [hs]; omega) _).trans (hk.2.1.mono (by omega))).trans (hb.mono (by omega))
  have HB3 := Lib.hid hB3
  have a0 : w3.cell? ⟨w.heap.size + 1, 0, none⟩ = some (.string ⟨#[]⟩) := by rw [(old 0).1]; exact d0
  have a1 : w3.cell? ⟨w.heap.size + 1, 1, none⟩ = some (.int .i64 0) := by rw [(old 1).1]; exact d1
  have f0 : w3.frozen? ⟨w.heap.size + 1, 0, none⟩ = false := by rw [(old 0).2]; exact e0
  have f1 : w3.frozen? ⟨w.heap.size + 1, 1, none⟩ = false := by rw [(old 1).2]; exact e1
  clear hk hb old hB3 d0 d1 e0 e1 hs
  go_wp2
  refine bodyPost_ret (v := .tuple #[noBits, .int .i64 x]) (by simp [results, Try.results26, go_sem, a0, a1, noBits]) rfl ⟨rfl, ?_⟩
  exact (HB3.out.setCell (p := ⟨w.heap.size + 1, 0, none⟩) (by simp) _).setCell (p := ⟨w.heap.size + 1, 1, none⟩) (by simp) _
end Bt
end Go.Proofs.Ytabhnnighhglfaa
