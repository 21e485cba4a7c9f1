/-
  MATHS of stage 11: costs, as in stage 10.
-/
import Derived.Test.YtdcenocljnlipaaRows
import Derived.Test.YtdcenocljnlipaaMgc
import Derived.Test.YtdcenocljnlipaaWa
import Derived.Test.YtdcenocljnlipaaWb
import Derived.Test.YtdcenocljnlipaaWm
import Derived.Test.YtdcenocljnlipaaWc
import Derived.Test.YtdcenocljnlipaaWd
import Derived.Test.YtdcenocljnlipaaWe
import Derived.Test.YtdcenocljnlipaaWf
import Derived.Test.YtdcenocljnlipaaWg
import Derived.Test.YtdcenocljnlipaaWk
import Derived.Test.YtdcenocljnlipaaOa
import Derived.Test.YtdcenocljnlipaaOb
import Derived.Test.YtdcenocljnlipaaOc
import Derived.Test.YtdcenocljnlipaaOd
import Derived.Test.YtdcenocljnlipaaOf
import Derived.Test.YtdcenocljnlipaaOi
import Derived.Test.YtdcenocljnlipaaWh
import Derived.Test.YtdcenocljnlipaaCm
import Derived.Test.YtdcenocljnlipaaKa
import Derived.Test.YtdcenocljnlipaaKb
import Derived.Test.YtdcenocljnlipaaKl
import Derived.Test.YtdcenocljnlipaaKj
import Derived.Test.YtdcenocljnlipaaKc
import Derived.Test.YtdcenocljnlipaaKd
import Derived.Test.YtdcenocljnlipaaKn
namespace Go.Proofs.Ytdcenocljnlipaa
open Go.RowKit
namespace Km
open Ab Wa Wb Wm Wc Wd We Wf Wg Wk Oa Ob Oc Od Of Oi Wh Cm Ka Kb Kl Kj Kc Kd Kn

theorem OkL.bnd {l : List Int} (h : OkL l) : bnd l := fun x hx => by
  obtain ⟨i, hi, rfl⟩ := List.mem_iff_getElem.1 hx
  have := h.good hi
  rw [List.getD_eq_getElem?_getD, List.getElem?_eq_getElem hi] at this
  simp only [Option.getD_some] at this
  unfold okW; omega
theorem cs_cS {l w : List Int} {f : Nat → Nat} : ∀ k, (∀ i, i < k → l.getD i 0 = (f i : Int)) → cs l w k = cS w f k
  | 0, _ => rfl
  | k + 1, h => by rw [cs, cS, cs_cS k (fun i hi => h i (by omega)), h k (by omega), Int.mul_comm]
theorem ones_bnd {w : List Int} (h : bnd w) : bnd (ones w) := fun x hx => by
  obtain ⟨y, hy, rfl⟩ := List.mem_map.1 hx
  have := h y hy
  unfold okW at this ⊢; omega
theorem ones_2 (w : List Int) : ones (ones w) = ones w := by
  refine ext_gd (by rw [ones_len]) (fun i hi => ?_)
  rw [ones_len, ones_len] at hi
  rw [ones_at (by rw [ones_len]; exact hi), ones_at hi]; omega
theorem least_f {w l : List Int} (hw : bnd w) (h2 : 2 ≤ w.length) (h20 : w.length ≤ 20) (hl : l.length = w.length) (ho : OkL l) :
    ∃ best a b, lnV (ones w) 20 = (best, 0) ∧ best.length = w.length ∧ costV best (ones w) = (a, 0) ∧ costV l (ones w) = (b, 0) ∧ a ≤ b := by
  have hol := ones_len w
  obtain ⟨best, v, hb1, hb2, hb3, _, _, _, _, hvl, hlv, hvn, _, hvo⟩ := lenW_all (w := ones w) (most := 20) (by omega) (by omega) (by decide) (by decide) (ones_bnd hw)
  have hv : v = ones w := by rw [hvo (by omega), ones_2]
  have hbb : bnd best := fun x hx => by
    obtain ⟨i, hi, rfl⟩ := List.mem_iff_getElem.1 hx
    have := hb3 i hi
    rw [List.getD_eq_getElem?_getD, List.getElem?_eq_getElem hi] at this
    simp only [Option.getD_some] at this
    unfold okW; omega
  have hlw := Dw_least (w := ones w) (ones_pos w).nn (by omega) (M := 20) (f := ln l) (fun i hi => by have := ho.good (s := i) (by omega); omega) (by
    have := ok_kS ho
    rw [hl, ← hol] at this; exact this)
  refine ⟨best, cs best (ones w) best.length, cs l (ones w) l.length, hb1, by omega, cost_y (by omega) hbb (ones_bnd hw) rfl, cost_y (by omega) (OkL.bnd ho) (ones_bnd hw) rfl, ?_⟩
  rw [cs_cS (f := Dw (ones w)) _ (fun i hi => by rw [hlv i (by omega), hv]), cs_cS (f := ln l) _ (fun i hi => (ho.good hi).2.2), show best.length = (ones w).length by omega, show l.length = (ones w).length by omega]
  exact hlw
theorem co_t {w l : List Int} {n k : Nat} {c e : Int} {xs ys : List Value} (hn : n = l.length) (hx : xs = l.map (Value.int .i64)) (hl : l.length ≤ 1000) (hk : k = w.length) (hy : ys = w.map (Value.int .i64)) (hw : w.length ≤ 1000) (h : costV l w = (c, e)) : FPure Try.prog 21 [Sl 1 n xs, Sl 1 k ys] (Tup [Is (.int .i64 c), Is (.int .i64 e)]) := by
  subst hn hx hk hy
  have h1 := cost_s l w hl hw
  rw [h] at h1
  exact h1
end Km
end Go.Proofs.Ytdcenocljnlipaa
