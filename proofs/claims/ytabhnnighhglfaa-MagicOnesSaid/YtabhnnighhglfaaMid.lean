/-
  A REGION THAT DRAWS ITS ORDER AND ENDS IN A STORE: 'pre' in whatever order (the same values in every world of the class S), then 'mid' one by one (reading the world as it is), then one last operation.
-/
import Derived.Test.YtabhnnighhglfaaSched
namespace Go.Proofs.Ytabhnnighhglfaa
open Go.RowKit
namespace Sched
theorem wp_imp {P : Program} {o : Oper} {a : Act} {w : World} {K K' : Act → World → Prop} {Q Q' : Exit → Act → World → Prop} (hK : ∀ a w, K a w → K' a w) (hQ : ∀ e a w, Q e a w → Q' e a w) (h : o.wp P a w K Q) : o.wp P a w K' Q' := by
  unfold Oper.wp at *
  generalize (execOp a.eval o).run P w = r at *
  cases r with
  | ok n w' =>
    cases n <;> simp only [Oper.upon] at h ⊢
    case value => exact hK _ _ h
    case skip => exact hK _ _ h
    case defer => exact hK _ _ h
    case enter =>
      refine h.mono fun e w'' h' => ?_
      cases e with
      | returned v => exact hK _ _ h'
      | panicked c => exact hQ _ _ _ h'
      | outgrown => obtain ⟨a, w, h⟩ := h'; exact ⟨a, w, hQ _ _ _ h⟩
    case row =>
      intro b k
      obtain ⟨v, w2, h1, h2⟩ := h b k
      exact ⟨v, w2, hK _ _ h1, h2⟩
  | halt x w' =>
    cases x <;> simp only [Oper.upon] at h ⊢
    exact hQ _ _ _ h
theorem tail_of_mid {P : Program} {ops : Array Oper} {Q : Exit → Act → World → Prop} {S : World → Prop} {w : World} (hS : S w) (last : Nat) : ∀ (mid : List Nat) (l : List Oper) (_hl : mid.map (ops[·]?) = l.map some) (a : Act),
    wpQuiet P ops (fun w' => w' = w) (fun a' => wpTail P ops Q S [last] a' w) l a → wpTail P ops Q S (mid ++ [last]) a w
  | [], [], _, a, h => h
  | [], _ :: _, hl, _, _ => by cases hl
  | _ :: _, [], hl, _, _ => by cases hl
  | k :: mid, o :: l, hl, a, h => by
    simp only [List.map_cons, List.cons.injEq] at hl
    rw [List.cons_append]
    unfold wpTail wpOp
    rw [hl.1]
    simp only
    unfold wpQuiet at h
    by_cases hw : Region.wanted o (yielded ops a.tmps) = true
    · rw [if_pos hw] at h ⊢
      exact .inl (Oper.wp_of_quiet (C := fun w' => w' = w) rfl (fun a' w' e h' => by subst e; exact ⟨hS, tail_of_mid hS last mid l hl.2 a' h'⟩) h)
    · rw [if_neg hw] at h ⊢
      exact ⟨hS, tail_of_mid hS last mid l hl.2 _ h⟩
theorem tail_of_last {P : Program} {ops : Array Oper} {Q : Exit → Act → World → Prop} {S : World → Prop} (k : Nat) (o : Oper) (ho : ops[k]? = some o) (a : Act) (w : World) (h : wpList P ops (fun e a w => S w ∧ Q e a w) [o] a w) : wpTail P ops Q S [k] a w := by
  unfold wpTail wpOp
  rw [ho]
  simp only
  unfold wpList at h
  by_cases hw : Region.wanted o (yielded ops a.tmps) = true
  · rw [if_pos hw] at h ⊢
    rcases h with h | ⟨h1, a, w, h2⟩
    · exact .inl (wp_imp (fun a w h => h) (fun e a w h => h.2) h)
    · exact .inr ⟨h1, a, w, h2.2⟩
  · rw [if_neg hw] at h ⊢
    exact h
theorem region_mid {P : Program} {id : Nat} {Q : Exit → Act → World → Prop} {a : Act} {w : World} {l : List Oper} (S : World → Prop) (pre mid : List Nat) (last : Nat) (hS : S w.drew) (hm : P.follows .mixedOrders = true)
    (hB : (schedB l.toArray pre (mid ++ [last]) && pre.all (fun i => decide (i < l.length)) && mid.all (fun i => decide (i < l.length)) && decide (last < l.length)) = true)
    (h : wpQuiet P l.toArray S (fun a1 => wpQuiet P l.toArray (fun w' => w' = w.drew) (fun a2 => wpList P l.toArray (fun e a3 w3 => S w3 ∧ NoPanic Q e a3 w3) [at' l last] a2 w.drew) (pick l mid) a1) (pick l pre) a) : (Code.region id l.toArray true).wp P Q a w := by
  refine wp_region_noPanic ?_
  simp only [Bool.and_eq_true, decide_eq_true_eq] at hB
  obtain ⟨⟨⟨hB, hp⟩, hmid⟩, hl⟩ := hB
  simp only [schedB, Bool.and_eq_true, beq_iff_eq] at hB
  obtain ⟨⟨hs, hlen⟩, hpre⟩ := hB
  refine wp_region_held (S := S) hm ?_
  rw [← hlen]
  refine any_of_pre hS hs (fun c a d v w h => h) _ pre _ a (by rw [hlen]; exact hpre) (pre_of_quiet pre (pick l pre) (pick_map l pre hp) a ?_)
  refine quiet_mono (fun a' h' => tail_of_mid hS last mid (pick l mid) (pick_map l mid hmid) a' ?_) (pick l pre) a h
  refine quiet_mono (fun a' h' => tail_of_last last (at' l last) ?_ a' _ h') (pick l mid) a' h'
  rw [List.getElem?_toArray, at_get l last hl]
theorem setCell_self {w : World} {b o : Nat} {u : Value} (h : w.cell? ⟨b, o, none⟩ = some u) : w.setCell ⟨b, o, none⟩ u = w := by
  have e : (w.setCell ⟨b, o, none⟩ u).heap = w.heap := by
    apply Array.ext_getElem?
    intro i
    unfold World.setCell
    simp only
    rw [Array.getElem?_modify]
    by_cases hi : b = i
    · subst hi
      rw [if_pos rfl]
      simp only [World.cell?] at h
      cases hb : w.heap[b]? with
      | none => rfl
      | some ob =>
        rw [hb] at h
        cases ob with
        | cells c t f =>
          simp only [Option.map_some, Option.some.injEq, Obj.cells.injEq, and_true]
          simp at h ⊢
          apply Array.ext_getElem?
          intro j
          rw [Array.getElem?_setIfInBounds]
          split
          · rename_i hj
            subst hj
            split
            · exact h.symm
            · rename_i h'
              rw [Array.getElem?_eq_none (by omega)]
          · rfl
        | _ => rfl
    · rw [if_neg hi]
  have e2 : w.setCell ⟨b, o, none⟩ u = { w with heap := (w.setCell ⟨b, o, none⟩ u).heap } := rfl
  rw [e2, e]
end Sched
end Go.Proofs.Ytabhnnighhglfaa
