/-
  FROM CONTRACTS OVER ABSTRACT STATES TO WHAT A LAW'S FRAME ASKS FOR: the drawn arguments.
-/
import Derived.Test.YtmilegikgbmjpaaAb9
import Derived.Test.YtmilegikgbmjpaaOpen
namespace Go.Proofs.Ytmilegikgbmjpaa
open Go.RowKit
namespace Aw
open Ab
theorem wf64 {a : Int} (h : (Lit.int .i64 a).wf = true) : -9223372036854775808 ≤ a ∧ a ≤ 9223372036854775807 := by
  simp only [Lit.wf, IntKind.min, IntKind.max, IntKind.bits, IntKind.signed, Bool.and_eq_true, decide_eq_true_eq] at h
  simp at h
  omega
theorem wfs {l : List Int} (h : ∀ z ∈ l, (Lit.int .i64 z).wf = true) : In64 l := fun z hz => wf64 (h z hz)
theorem sl_bd {w : World} {e n : Nat} {v : Value} {xs : List Value} (h : Kit.Sl w e v n xs) : n ≤ 9223372036854775807 := by
  obtain ⟨_, ⟨_, h⟩ | ⟨a, c, _, h1, h2, _⟩⟩ := h
  · omega
  · simp only [maxLen] at h2; omega
theorem sl_ar {w : World} {n : Nat} {v : Value} {z : List Int} (h : Kit.Sl w 1 v n (z.map (Value.int .i64))) (hl : z.length = n) : SlP (Kw.plain w) 1 z.length (z.map (Value.int .i64)) v := by
  subst hl; exact SlP.of_kit h
end Aw
end Go.Proofs.Ytmilegikgbmjpaa
