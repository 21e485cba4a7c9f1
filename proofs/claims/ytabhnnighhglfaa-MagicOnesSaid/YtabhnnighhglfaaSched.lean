/-
  A REGION THAT DRAWS ITS ORDER: values that hang on no world are taken first ('pre'); what is left comes up one by one ('post').
-/
import Derived.WalkKit
import Derived.BigQuiet
import Derived.OrdersHeld
import Derived.Deep.RegionHeld3
namespace Go.Proofs.Ytabhnnighhglfaa
open Go.RowKit
namespace Sched

def valueOp : Op → Bool
  | .nilCheck _ | .move _ | .assign _ | .pick .. | .load .. | .binOp .. | .unOp .. | .convert .. | .slice .. | .fieldAddr .. | .field .. | .indexAddr .. | .index .. | .build .. => true
  | .call { callee := .builtin .len, args := _, argTypes := _ } | .call { callee := .builtin .min, args := _, argTypes := _ } => true
  | _ => false

theorem value_map {P : Program} {s : Sem Value} {w w' : World} {n : Next} (h : (do pure (Next.value (← s)) : Sem Next).run P w = .ok n w') : ∃ u, n = .value u := by
  rw [Sem.run_bind] at h
  generalize s.run P w = r at h
  cases r with
  | ok v w1 =>
    simp only [Result.andThen_ok, Sem.run_pure, Result.ok.injEq] at h
    exact ⟨v, h.1.symm⟩
  | halt x w1 => simp [Result.andThen] at h

theorem value_map' {r : Result Value} {w' : World} {n : Next} (h : (r.andThen fun a w' => Result.ok (Next.value a) w') = .ok n w') : ∃ u, n = .value u := by
  cases r with
  | ok v w1 =>
    simp only [Result.andThen_ok, Result.ok.injEq] at h
    exact ⟨v, h.1.symm⟩
  | halt x w1 => simp [Result.andThen] at h

theorem value_of_ok {P : Program} {o : Oper} (hv : valueOp o.op = true) {ρ : Operand → Value} {w w' : World} {n : Next} (h : (execOp ρ o).run P w = .ok n w') : ∃ u, n = .value u := by
  obtain ⟨dst, op, ty, pos, after, guard⟩ := o
  cases op <;> simp only [valueOp] at hv <;> try (cases hv; done)
  case call c =>
    obtain ⟨callee, args, ats⟩ := c
    cases callee with
    | builtin b =>
      cases b <;> simp only at hv <;> try (cases hv; done)
      all_goals
        unfold execOp at h
        simp only [resolve, Sem.run_bind, Sem.run_pure, Result.andThen_ok, invoke, builtin] at h
        exact value_map' h
    | invoke _ _ => cases hv
    | value _ => cases hv
  case move x => unfold execOp at h; simp only [Sem.run_pure, Result.ok.injEq] at h; exact ⟨_, h.1.symm⟩
  case assign x => unfold execOp at h; simp only [Sem.run_pure, Result.ok.injEq] at h; exact ⟨_, h.1.symm⟩
  case nilCheck x =>
    have hn : ∀ w : World, ∃ v, (runtimePanic .nilDeref : Sem Next).run P w = .halt v w := fun w => ⟨_, rfl⟩
    obtain ⟨v0, hv0⟩ := hn w
    unfold execOp at h
    simp only at h
    split at h
    · rw [hv0] at h; cases h
    · rw [hv0] at h; cases h
    · rw [hv0] at h; cases h
    · split at h
      · rw [hv0] at h; cases h
      · simp only [Sem.run_bind] at h
        generalize (program : Sem Program).run P w = r1 at h
        cases r1 with
        | halt x w1 => simp [Result.andThen] at h
        | ok v1 w1 =>
          simp only [Result.andThen_ok] at h
          generalize (nilAhead _ _ _ _).run P w1 = r2 at h
          cases r2 with
          | halt x w2 => simp [Result.andThen] at h
          | ok v2 w2 =>
            simp only [Result.andThen_ok] at h
            split at h
            · simp [Result.andThen] at h
            · simp only [Sem.run_pure, Result.ok.injEq] at h; exact ⟨_, h.1.symm⟩
      · simp only [Sem.run_pure, Result.ok.injEq] at h; exact ⟨_, h.1.symm⟩
    · simp only [Sem.run_pure, Result.ok.injEq] at h; exact ⟨_, h.1.symm⟩
  case pick c a b =>
    unfold execOp at h
    simp only [Sem.run_bind] at h
    generalize (asBool (ρ c)).run P w = r at h
    cases r with
    | ok v w1 => cases v <;> simp only [Result.andThen_ok, Sem.run_pure, Result.ok.injEq, Bool.false_eq_true, if_true, if_false] at h <;> exact ⟨_, h.1.symm⟩
    | halt x w1 => simp [Result.andThen] at h
  all_goals
    unfold execOp at h
    exact value_map h

theorem quiet_yields {P : Program} {ops : Array Oper} {S : World → Prop} {o : Oper} {a : Act} {v : Value} (hv : valueOp o.op = true) (hw : Region.wanted o (yielded ops a.tmps) = true) (_hne : ∃ w, S w)
    (h : ∀ w, S w → o.quietAt P a S w v) : YieldsIf P ops S o v a := by
  refine .inl ⟨hw, fun w hS => ?_⟩
  have h1 := h w hS
  unfold Oper.quietAt at h1
  generalize hr : (execOp a.eval o).run P w = r at h1
  cases r with
  | ok n w' =>
    obtain ⟨u, rfl⟩ := value_of_ok hv hr
    obtain ⟨rfl, rfl⟩ := h1
    rfl
  | halt x w' => exact h1.elim

def postB (ops : Array Oper) : List Nat → Array Bool → Bool
  | [], listed => (Region.ready .any ops listed).isEmpty
  | k :: post, listed => (Region.ready .any ops listed == [k]) && postB ops post (listed.setIfInBounds k true)
def preB (ops : Array Oper) (post : List Nat) : List Nat → Array Bool → Bool
  | [], listed => postB ops post listed
  | i :: pre, listed => (Region.ready .any ops listed).contains i && Region.free .any ops listed i && ((ops[i]?).map (fun o => valueOp o.op)).getD false && preB ops post pre (listed.setIfInBounds i true)
def schedB (ops : Array Oper) (pre post : List Nat) : Bool :=
  Region.noSelect ops && (pre.length + post.length == ops.size) && preB ops post pre (Array.replicate ops.size false)

/-- the rest, one by one; behind each the class holds -/
def wpTail (P : Program) (ops : Array Oper) (Q : Exit → Act → World → Prop) (S : World → Prop) : List Nat → Act → World → Prop
  | [], a, w => Q .normal a w
  | k :: post, a, w => wpOp P ops Q k (fun a' w' => S w' ∧ wpTail P ops Q S post a' w') a w

theorem any_of_tail {P : Program} {ops : Array Oper} {Q : Exit → Act → World → Prop} {S : World → Prop} : ∀ (post : List Nat) (listed : Array Bool) (a : Act) (w : World), postB ops post listed = true →
    wpTail P ops Q S post a w → wpAnyH P .any ops Q S post.length listed a w
  | [], listed, a, w, hB, h => by
    simp only [postB, List.isEmpty_iff] at hB
    exact wpAnyH_done hB h 0
  | k :: post, listed, a, w, hB, h => by
    simp only [postB, Bool.and_eq_true, beq_iff_eq] at hB
    refine wpAnyH_all hB.1 (by simp) (fun i hi => ?_)
    have : i = k := by simpa using hi
    subst this
    exact wpOp_mono (fun a' w' ⟨h1, h2⟩ => ⟨h1, any_of_tail post _ a' w' hB.2 h2⟩) h

/-- the walk of 'pre', by numbers -/
def wpPre (P : Program) (ops : Array Oper) (S : World → Prop) (Q : Act → Prop) : List Nat → Act → Prop
  | [], a => Q a
  | i :: pre, a => match ops[i]? with
    | none => False
    | some o => if Region.wanted o (yielded ops a.tmps) then o.quiet P a S (wpPre P ops S Q pre) else wpPre P ops S Q pre (a.put o.dst undef)

theorem any_of_pre {P : Program} {ops : Array Oper} {Q : Exit → Act → World → Prop} {S : World → Prop} {w : World} (hS : S w) (hs : Region.noSelect ops = true) (hQ : ∀ c a d v w, Q (.panic c) (a.put d v) w → Q (.panic c) a w) (post : List Nat) :
    ∀ (pre : List Nat) (listed : Array Bool) (a : Act), preB ops post pre listed = true →
    wpPre P ops S (fun a' => wpTail P ops Q S post a' w) pre a → wpAnyH P .any ops Q S (pre.length + post.length) listed a w
  | [], listed, a, hB, h => by
    simp only [preB] at hB
    simpa using any_of_tail post listed a w hB h
  | i :: pre, listed, a, hB, h => by
    simp only [preB, Bool.and_eq_true] at hB
    obtain ⟨⟨⟨hr, hf⟩, hv⟩, hB'⟩ := hB
    unfold wpPre at h
    split at h
    · exact h.elim
    · rename_i o ho
      have hv' : valueOp o.op = true := by simpa [ho] using hv
      rw [List.length_cons, show pre.length + 1 + post.length = (pre.length + post.length) + 1 by omega]
      by_cases hw : Region.wanted o (yielded ops a.tmps) = true
      · rw [if_pos hw] at h
        obtain ⟨v, h1, h2⟩ := h
        exact wpAnyH_take ho hs hf hr (fun c a w => hQ c a _ _ w) (quiet_yields hv' hw ⟨w, hS⟩ h1) hS (any_of_pre hS hs hQ post pre _ _ hB' h2)
      · rw [if_neg hw] at h
        exact wpAnyH_take ho hs hf hr (fun c a w => hQ c a _ _ w) (.inr ⟨by simpa using hw, rfl⟩) hS (any_of_pre hS hs hQ post pre _ _ hB' h)

theorem pre_of_quiet {P : Program} {ops : Array Oper} {S : World → Prop} {Q : Act → Prop} : ∀ (pre : List Nat) (l : List Oper) (_hl : pre.map (ops[·]?) = l.map some) (a : Act), wpQuiet P ops S Q l a → wpPre P ops S Q pre a
  | [], [], _, a, h => h
  | [], _ :: _, hl, _, _ => by cases hl
  | _ :: _, [], hl, _, _ => by cases hl
  | i :: pre, o :: l, hl, a, h => by
    simp only [List.map_cons, List.cons.injEq] at hl
    unfold wpPre
    rw [hl.1]
    simp only
    unfold wpQuiet at h
    by_cases hw : Region.wanted o (yielded ops a.tmps) = true
    · rw [if_pos hw] at h ⊢
      exact Oper.quiet_mono (fun a' h' => pre_of_quiet pre l hl.2 a' h') h
    · rw [if_neg hw] at h ⊢
      exact pre_of_quiet pre l hl.2 _ h

theorem tail_of_list {P : Program} {ops : Array Oper} {Q : Exit → Act → World → Prop} : ∀ (post : List Nat) (l : List Oper) (_hl : post.map (ops[·]?) = l.map some) (a : Act) (w : World), wpList P ops Q l a w → wpTail P ops Q (fun _ => True) post a w
  | [], [], _, a, w, h => h
  | [], _ :: _, hl, _, _, _ => by cases hl
  | _ :: _, [], hl, _, _, _ => by cases hl
  | k :: post, o :: l, hl, a, w, h => by
    simp only [List.map_cons, List.cons.injEq] at hl
    unfold wpTail wpOp
    rw [hl.1]
    simp only
    unfold wpList at h
    by_cases hw : Region.wanted o (yielded ops a.tmps) = true
    · rw [if_pos hw] at h ⊢
      rcases h with h | h
      · exact .inl (Oper.wp_mono (fun a' w' h' => ⟨trivial, tail_of_list post l hl.2 a' w' h'⟩) h)
      · exact .inr h
    · rw [if_neg hw] at h ⊢
      exact ⟨trivial, tail_of_list post l hl.2 _ _ h⟩

theorem quiet_mono {P : Program} {ops : Array Oper} {S : World → Prop} {Q Q' : Act → Prop} (hq : ∀ a, Q a → Q' a) : ∀ (l : List Oper) (a : Act), wpQuiet P ops S Q l a → wpQuiet P ops S Q' l a
  | [], a, h => hq a h
  | o :: l, a, h => by
    unfold wpQuiet at h ⊢
    by_cases hw : Region.wanted o (yielded ops a.tmps) = true
    · rw [if_pos hw] at h ⊢
      exact Oper.quiet_mono (fun a' h' => quiet_mono hq l a' h') h
    · rw [if_neg hw] at h ⊢
      exact quiet_mono hq l _ h

/-- THE RULE. lp, lt: the operations numbered 'pre', 'post'. -/
theorem region {P : Program} {id : Nat} {Q : Exit → Act → World → Prop} {a : Act} {w : World} {l : List Oper} (pre post : List Nat) (lp lt : List Oper) (hm : P.follows .mixedOrders = true)
    (hB : schedB l.toArray pre post = true) (hp : pre.map (l.toArray[·]?) = lp.map some) (ht : post.map (l.toArray[·]?) = lt.map some)
    (h : wpQuiet P l.toArray (fun _ => True) (fun a' => wpList P l.toArray (NoPanic Q) lt a' w.drew) lp a) : (Code.region id l.toArray true).wp P Q a w := by
  refine wp_region_noPanic ?_
  simp only [schedB, Bool.and_eq_true, beq_iff_eq] at hB
  obtain ⟨⟨hs, hlen⟩, hpre⟩ := hB
  refine wp_region_held (S := fun _ => True) hm ?_
  rw [← hlen]
  refine any_of_pre trivial hs (fun c a d v w h => h) post pre _ a (by rw [hlen]; exact hpre) (pre_of_quiet pre lp hp a ?_)
  exact quiet_mono (fun a' h' => tail_of_list post lt ht a' _ h') lp a h
/-- The first n are the ones that hang on no world. -/
theorem region_n {P : Program} {id : Nat} {Q : Exit → Act → World → Prop} {a : Act} {w : World} {l : List Oper} (n : Nat) (hm : P.follows .mixedOrders = true)
    (hB : (schedB l.toArray (List.range n) (List.range' n (l.length - n)) && decide (n ≤ l.length)) = true)
    (h : wpQuiet P l.toArray (fun _ => True) (fun a' => wpList P l.toArray (NoPanic Q) (l.drop n) a' w.drew) (l.take n) a) : (Code.region id l.toArray true).wp P Q a w := by
  simp only [Bool.and_eq_true, decide_eq_true_eq] at hB
  obtain ⟨hB, hn⟩ := hB
  refine region (List.range n) (List.range' n (l.length - n)) (l.take n) (l.drop n) hm hB ?_ ?_ h
  · apply List.ext_getElem?
    intro i
    simp only [List.getElem?_map]
    by_cases hi : i < n
    · have : i < l.length := by omega
      simp [hi, this]
    · have : (l.take n)[i]? = none := List.getElem?_eq_none (by simp; omega)
      simp [hi, this]
  · apply List.ext_getElem?
    intro i
    simp only [List.getElem?_map]
    by_cases hi : i < l.length - n
    · have : n + i < l.length := by omega
      simp [hi, this]
    · simp [hi]
/-- so many of them, by their numbers -/
def none' : Oper := { dst := none, op := .move (.tmp 0), type := 0, pos := "", after := #[], guard := none }
def at' : List Oper → Nat → Oper
  | [], _ => none'
  | o :: _, 0 => o
  | _ :: l, n + 1 => at' l n
theorem at_zero (o : Oper) (l : List Oper) : at' (o :: l) 0 = o := rfl
theorem at_succ (o : Oper) (l : List Oper) (n : Nat) : at' (o :: l) (n + 1) = at' l n := rfl
theorem at_get : ∀ (l : List Oper) (n : Nat), n < l.length → l[n]? = some (at' l n)
  | [], _, h => by simp at h
  | _ :: _, 0, _ => rfl
  | o :: l, n + 1, h => by rw [at_succ, List.getElem?_cons_succ]; exact at_get l n (by simpa using h)
def pick (l : List Oper) : List Nat → List Oper
  | [] => []
  | i :: is => at' l i :: pick l is
theorem pick_nil (l : List Oper) : pick l [] = [] := rfl
theorem pick_cons (l : List Oper) (i : Nat) (is : List Nat) : pick l (i :: is) = at' l i :: pick l is := rfl
theorem pick_map (l : List Oper) : ∀ (is : List Nat), is.all (fun i => decide (i < l.length)) = true → is.map (l.toArray[·]?) = (pick l is).map some
  | [], _ => rfl
  | i :: is, h => by
    simp only [List.all_cons, Bool.and_eq_true, decide_eq_true_eq] at h
    simp only [pick, List.map_cons, List.getElem?_toArray, at_get l i h.1]
    have := pick_map l is h.2
    simp only [List.getElem?_toArray] at this
    rw [this]
/-- pre: the ones that hang on no world, wherever they stand -/
theorem region_at {P : Program} {id : Nat} {Q : Exit → Act → World → Prop} {a : Act} {w : World} {l : List Oper} (pre post : List Nat) (hm : P.follows .mixedOrders = true)
    (hB : (schedB l.toArray pre post && pre.all (fun i => decide (i < l.length)) && post.all (fun i => decide (i < l.length))) = true)
    (h : wpQuiet P l.toArray (fun _ => True) (fun a' => wpList P l.toArray (NoPanic Q) (pick l post) a' w.drew) (pick l pre) a) : (Code.region id l.toArray true).wp P Q a w := by
  simp only [Bool.and_eq_true] at hB
  exact region pre post _ _ hm hB.1.1 (pick_map l pre hB.1.2) (pick_map l post hB.2) h
end Sched
end Go.Proofs.Ytabhnnighhglfaa
