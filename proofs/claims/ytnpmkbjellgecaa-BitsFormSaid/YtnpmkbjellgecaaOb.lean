/-
  ARGUMENTS OPENED FOR THE WALKS: a struct of a string and a number.
-/
import Derived.Test.YtnpmkbjellgecaaOpen
import Derived.ChangeSame
namespace Go.Proofs.Ytnpmkbjellgecaa
open Go.ChangeShapes Go.WideShapes Go.ChangeAt Go.RowKit
namespace Kit
theorem open_pair {H : Type} {enc : TypeId × Value → H} {P : Program} {W : World} {base b0 : Nat} {spare : Nat → Bool} {held : Bool} {t : TypeId} {f0 f1 : Field} {v : Value} {d : DataW H} {ps : List MemPlace} {r : Reach}
    (hu : P.underlying t = some (.struct #[f0, f1])) (h0 : P.underlying f0.type = some .string) (h1 : P.underlying f1.type = some (.int .i64)) (c0 : P.cellsOf f0.type = 1) (c1 : P.cellsOf f1.type = 1) (ct : P.cellsOf t = 2) (o0 : f0.offset = 0) (o1 : f1.offset = 1)
    (hval : Value.okWide P W r base t v) (h : DataW.Trod enc P W b0 spare held t v d ps) :
    ∃ (s : ByteArray) (n : Int), v = .agg #[.string s, .int .i64 n] ∧ s.size ≤ maxLen ∧ (Lit.int .i64 n).wf = true := by
  simp only [Value.okWide, hu] at hval
  obtain ⟨cs, rfl, h2, _⟩ := hval
  rw [ct] at h2
  obtain ⟨fuel, hf⟩ := h
  obtain ⟨y0, y1, m, _, _, hx, hy⟩ := trod_struct2 hu hf
  have hc : (Value.agg cs).cells.toList = cs.toList := rfl
  rw [hc, c0, o0] at hx
  rw [hc, c1, o1] at hy
  obtain ⟨s, hs, _, hw⟩ := DataW.trod_string h0 hx
  obtain ⟨n, hn, _, hw2⟩ := DataW.trod_int h1 hy
  refine ⟨s, n, ?_, hw, hw2⟩
  obtain ⟨l⟩ := cs
  match l, h2 with
  | [a, b], _ =>
    simp at hs hn
    rw [hs, hn]
end Kit
end Go.Proofs.Ytnpmkbjellgecaa
