/-
  ARGUMENTS OPENED FOR THE WALKS: a slice of integers as 'Sl'.
-/
import Derived.Test.YtmilegikgbmjpaaKit
import Derived.Test.YtmilegikgbmjpaaRows
import Derived.ProofKit
import Derived.OpenShut
import Derived.ShutString
import Derived.ChangeOld
import Derived.Below
import Derived.Lib.SmallJoins
namespace Go.Proofs.Ytmilegikgbmjpaa
open Go.ChangeShapes Go.WideShapes Go.ChangeAt Go.RowKit
namespace Kit

theorem own : ownKnob Try.prog.godebug = none := by kernel_rfl
theorem laidOut : laidOutB Try.prog = true := by kernel_rfl

theorem add_spot {w : World} {a : Addr} {i : Nat} {u : Value} (h : w.cell? (a.add i) = some u) : (i = 0 → a.spot = none) ∧ w.cell? ⟨a.block, a.off + i, none⟩ = some u := by
  unfold Addr.add at h
  by_cases h0 : i = 0
  · subst h0
    simp only [] at h
    have hs : a.spot = none := World.cell?_spot h
    obtain ⟨b, o, s⟩ := a
    simp only at hs
    subst hs
    exact ⟨fun _ => rfl, h⟩
  · rw [if_neg h0] at h
    exact ⟨fun e => (h0 e).elim, h⟩

theorem sl_ints {w : World} {k : IntKind} {a : Addr} {len cap : Nat} {zs : List Int} (hl : len ≤ cap) (hm : cap ≤ maxLen) (hz : zs.length = cap)
    (hc : ∀ i, i < zs.length → w.cell? (a.add i) = some (.int k (zs.getD i 0))) : Sl w 1 (.slice (some a) len cap) len ((zs.take len).map (Value.int k)) := by
  refine ⟨by simp; omega, .inr ⟨a, cap, rfl, hl, hm, fun j u hj => ?_⟩⟩
  have hjl : j < len := by
    have := (List.getElem?_eq_some_iff.1 hj).1
    simp at this; omega
  have h0 := add_spot (hc 0 (by omega))
  have hj' := add_spot (hc j (by omega))
  refine ⟨h0.1 rfl, ?_⟩
  rw [hj'.2]
  rw [← hj]
  simp [hjl, List.getD_eq_getElem?_getD]
  rw [List.getElem?_eq_getElem (by omega)]; simp

/-- a slice of integers that came in -/
theorem open_sl {H : Type} {enc : TypeId × Value → H} {P : Program} {W : World} {base : Nat} {spare : Nat → Bool} {held : Bool} {t e : TypeId} {k : IntKind} {v : Value} {d : DataW H} {ps : List MemPlace} {r : Reach}
    (hu : P.underlying t = some (.slice e)) (he : P.underlying e = some (.int k)) (hce : P.cellsOf e = 1) (hsp : ∀ b, spare b = true)
    (hval : Value.okWide P W r base t v) (h : DataW.Trod enc P W 0 spare held t v d ps) :
    ∃ (n : Nat) (zs : List Int), Sl W 1 v n (zs.map (Value.int k)) ∧ zs.length = n ∧ ∀ z ∈ zs, (Lit.int k z).wf = true := by
  obtain ⟨a0, len0, cap0, rfl⟩ := okWide_slice hu hval
  obtain ⟨fuel, hf⟩ := h
  rcases open_ints hu he hce hf with ⟨hcs, _⟩ | ⟨x, l, c, zs, hcs, _, hl, hm, hz, _, hcell, hwz⟩
  · simp [Value.cells] at hcs
    obtain ⟨rfl, rfl, rfl⟩ := hcs
    exact ⟨0, [], Sl.nil _ _, rfl, by simp⟩
  · simp [Value.cells] at hcs
    obtain ⟨rfl, rfl, rfl⟩ := hcs
    rw [hsp, if_pos rfl] at hz
    exact ⟨len0, zs.take len0, sl_ints hl hm hz hcell, by simp; omega, fun z hz' => hwz z (List.mem_of_mem_take hz')⟩

/-- an array of integers by value, that came in -/
theorem open_arr {H : Type} {enc : TypeId × Value → H} {P : Program} {W : World} {base b0 : Nat} {spare : Nat → Bool} {held : Bool} {t e n : Nat} {k : IntKind} {v : Value} {d : DataW H} {ps : List MemPlace} {r : Reach}
    (hu : P.underlying t = some (.array n e)) (he : P.underlying e = some (.int k)) (hce : P.cellsOf e = 1) (hct : P.cellsOf t = n)
    (hval : Value.okWide P W r base t v) (h : DataW.Trod enc P W b0 spare held t v d ps) :
    ∃ zs : List Int, zs.length = n ∧ v = .agg (zs.map (Value.int k)).toArray ∧ ∀ z ∈ zs, (Lit.int k z).wf = true := by
  simp only [Value.okWide, hu] at hval
  obtain ⟨cs, rfl, h2, _⟩ := hval
  rw [hct] at h2
  obtain ⟨fuel, hf⟩ := h
  obtain ⟨xs, m, _, _, _, hx, hi⟩ := DataW.trod_array hu hf
  have hc : (Value.agg cs).cells.toList = cs.toList := rfl
  rw [hc, hce] at hi
  have key : ∀ i (hi' : i < n), ∃ z, cs[i]? = some (.int k z) ∧ (Lit.int k z).wf = true := by
    intro i hi'
    have h0 := hi i hi'
    rw [List.getElem?_eq_getElem (by omega)] at h0
    obtain ⟨z, hz, _, hw⟩ := DataW.trod_int he h0
    refine ⟨z, ?_, hw⟩
    have : ((cs.toList.drop (i * 1)).take 1)[0]? = some (.int k z) := by rw [hz]; rfl
    rw [List.getElem?_take, if_pos (by omega), List.getElem?_drop] at this
    simpa using this
  have : ∀ l : List Value, (∀ u ∈ l, ∃ z, u = .int k z ∧ (Lit.int k z).wf = true) → ∃ zs : List Int, l = zs.map (Value.int k) ∧ ∀ z ∈ zs, (Lit.int k z).wf = true := by
    intro l
    induction l with
    | nil => intro _; exact ⟨[], rfl, by simp⟩
    | cons u l ih =>
      intro hl
      obtain ⟨z, rfl, hz⟩ := hl u (by simp)
      obtain ⟨zs, rfl, hzs⟩ := ih (fun u hu => hl u (by simp [hu]))
      exact ⟨z :: zs, rfl, by intro y hy; rcases List.mem_cons.1 hy with rfl | hy; exact hz; exact hzs y hy⟩
  obtain ⟨zs, h1, h3⟩ := this cs.toList (fun u hu => by
    obtain ⟨i, hi1, hi2⟩ := List.getElem_of_mem hu
    have hi1' : i < n := by simp at hi1; omega
    obtain ⟨z, hz, hw⟩ := key i hi1'
    refine ⟨z, ?_, hw⟩
    rw [← hi2]
    have := (Array.getElem?_eq_some_iff.1 hz).2
    simpa using this)
  refine ⟨zs, ?_, ?_, h3⟩
  · have := congrArg List.length h1
    simp at this; omega
  · rw [← h1]

end Kit
end Go.Proofs.Ytmilegikgbmjpaa
