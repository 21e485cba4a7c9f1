/-
  A REGION OVER ABSTRACT STATES, in whatever order it is drawn.
-/
import Derived.Test.YtmilegikgbmjpaaAb1
namespace Go.Proofs.Ytmilegikgbmjpaa
open Go.RowKit
namespace Ab
/-- the operations from number k on, in the order of the text -/
def Runs (P : Program) (N c : Nat) (ops : Array Oper) : Nat → List Oper → Env → Heap → (List Res → Env → Heap → Prop) → Prop
  | _, [], env, heap, K => K [] env heap
  | k, o :: os, env, heap, K => ∃ r, GValid P (c + k) ops o env heap r ∧ (o.dst.all (fun d => decide (d < N))) = true ∧ Runs P N c ops (k + 1) os (putE env o.dst r.val) (updl heap r.wr) (fun rs => K (r :: rs))
/-- states by what is listed -/
def E (ops : Array Oper) (rs : List Res) (env : Env) (L : Nat → Bool) : Nat → Env
  | 0 => env
  | k + 1 => match ops[k]?, rs[k]? with
    | some o, some r => bif L k then putE (E ops rs env L k) o.dst r.val else E ops rs env L k
    | _, _ => E ops rs env L k
def H (rs : List Res) (heap : Heap) (L : Nat → Bool) : Nat → Heap
  | 0 => heap
  | k + 1 => match rs[k]? with
    | some r => bif L k then updl (H rs heap L k) r.wr else H rs heap L k
    | _ => H rs heap L k
/-- what is known of a region by its text -/
structure Indep (ops : Array Oper) (rs : List Res) where
  ordered : Nat → Nat → Prop
  n : Nat
  size : ops.size = n
  len : rs.length = n
  /-- j is ahead of k by the edges: who has k has j -/
  down : ∀ (D : Nat → Bool), (∀ k o, ops[k]? = some o → D k = true → ∀ e ∈ o.after, Region.binds .any e = true → D e.on = true) → ∀ j k, k < n → ordered j k → D k = true → D j = true
  edge : ∀ k o, ops[k]? = some o → ∀ e ∈ o.after, Region.binds .any e = true → e.on < k
  pair : ∀ j k oj ok rj rk, j < k → ops[j]? = some oj → ops[k]? = some ok → rs[j]? = some rj → rs[k]? = some rk → ordered j k ∨
    ((∀ d, oj.dst = some d → d ∉ ok.looksAt ops ∧ ok.dst ≠ some d) ∧ (∀ d, ok.dst = some d → d ∉ oj.looksAt ops) ∧
     (∀ x ∈ rj.wr, x.1 ∉ rk.rd ∧ ∀ y ∈ rk.wr, y.1 ≠ x.1) ∧ (∀ y ∈ rk.wr, y.1 ∉ rj.rd))
  grd : ∀ (k : Nat) (o : Oper), ops[k]? = some o → ∀ (j : Nat) (want : Bool), o.guard = some (j, want) → ∀ d : Nat, (ops[j]?).bind (·.dst) = some d → d ∈ o.looksAt ops
theorem E_env {ops : Array Oper} {rs : List Res} (I : Indep ops rs) (env : Env) (L : Nat → Bool) (hL : ∀ k o, ops[k]? = some o → L k = true → ∀ e ∈ o.after, Region.binds .any e = true → L e.on = true)
    {i : Nat} {o : Oper} {r : Res} (ho : ops[i]? = some o) (hr : rs[i]? = some r) (hi : L i = false) (hpre : ∀ e ∈ o.after, Region.binds .any e = true → L e.on = true) (t : Nat) (ht : t ∈ o.looksAt ops) :
    ∀ m, m ≤ I.n → E ops rs env L m t = E ops rs env (fun _ => true) (min m i) t := by
  have hin : i < I.n := by rw [← I.size]; exact (Array.getElem?_eq_some_iff.1 ho).1
  have hD : ∀ j, I.ordered j i → j ≠ i → L j = true := fun j hj hne => by
    have := I.down (fun k => L k || Nat.beq k i) (fun k ok hk hk' e he hb => by
      simp only [Bool.or_eq_true] at hk' ⊢
      rcases hk' with hk' | hk'
      · exact .inl (hL k ok hk hk' e he hb)
      · have : k = i := Nat.eq_of_beq_eq_true hk'
        subst this
        rw [ho] at hk; cases hk
        exact .inl (hpre e he hb)) j i hin hj (by simp)
    simp only [Bool.or_eq_true] at this
    rcases this with h | h
    · exact h
    · exact absurd (Nat.eq_of_beq_eq_true h) hne
  intro m
  induction m with
  | zero => intro _; simp [E]
  | succ k ih =>
    intro hm
    have ih := ih (by omega)
    obtain ⟨ok, hok⟩ : ∃ ok, ops[k]? = some ok := ⟨_, Array.getElem?_eq_getElem (by rw [I.size]; omega)⟩
    obtain ⟨rk, hrk⟩ : ∃ rk, rs[k]? = some rk := ⟨_, List.getElem?_eq_getElem (by rw [I.len]; omega)⟩
    by_cases hk : k < i
    · have e1 : min (k + 1) i = k + 1 := by omega
      have e2 : min k i = k := by omega
      rw [e1]; rw [e2] at ih
      simp only [E, hok, hrk]
      · simp only [cond_true]
        cases hLk : L k with
        | true =>
          simp only [cond_true]
          rw [putE_eq, putE_eq, ih]
        | false =>
          simp only [cond_false]
          rw [putE_eq, ih]
          rcases I.pair k i ok o rk r hk hok ho hrk hr with h | h
          · have := hD k h (by omega)
            rw [this] at hLk; cases hLk
          · rw [if_neg (fun hd => (h.1 t hd).1 ht)]
    · have e1 : min (k + 1) i = i := by omega
      have e2 : min k i = i := by omega
      rw [e1]; rw [e2] at ih
      simp only [E, hok, hrk]
      · cases hLk : L k with
        | true =>
          simp only [cond_true]
          have hki : k ≠ i := fun e => by subst e; rw [hi] at hLk; cases hLk
          rw [putE_eq, ih]
          rcases I.pair i k o ok r rk (by omega) ho hok hr hrk with h | h
          · have := I.down L hL i k (by rw [← I.size]; exact (Array.getElem?_eq_some_iff.1 hok).1) h hLk
            rw [this] at hi; cases hi
          · rw [if_neg (fun hd => h.2.1 t hd ht)]
        | false => simp only [cond_false]; exact ih
theorem H_heap {ops : Array Oper} {rs : List Res} (I : Indep ops rs) (heap : Heap) (L : Nat → Bool) (hL : ∀ k o, ops[k]? = some o → L k = true → ∀ e ∈ o.after, Region.binds .any e = true → L e.on = true)
    {i : Nat} {o : Oper} {r : Res} (ho : ops[i]? = some o) (hr : rs[i]? = some r) (hi : L i = false) (hpre : ∀ e ∈ o.after, Region.binds .any e = true → L e.on = true) (t : Nat) (ht : t ∈ r.rd) :
    ∀ m, m ≤ I.n → H rs heap L m t = H rs heap (fun _ => true) (min m i) t := by
  have hin : i < I.n := by rw [← I.size]; exact (Array.getElem?_eq_some_iff.1 ho).1
  have hD : ∀ j, I.ordered j i → j ≠ i → L j = true := fun j hj hne => by
    have := I.down (fun k => L k || Nat.beq k i) (fun k ok hk hk' e he hb => by
      simp only [Bool.or_eq_true] at hk' ⊢
      rcases hk' with hk' | hk'
      · exact .inl (hL k ok hk hk' e he hb)
      · have : k = i := Nat.eq_of_beq_eq_true hk'
        subst this
        rw [ho] at hk; cases hk
        exact .inl (hpre e he hb)) j i hin hj (by simp)
    simp only [Bool.or_eq_true] at this
    rcases this with h | h
    · exact h
    · exact absurd (Nat.eq_of_beq_eq_true h) hne
  intro m
  induction m with
  | zero => intro _; simp [H]
  | succ k ih =>
    intro hm
    have ih := ih (by omega)
    obtain ⟨ok, hok⟩ : ∃ ok, ops[k]? = some ok := ⟨_, Array.getElem?_eq_getElem (by rw [I.size]; omega)⟩
    obtain ⟨rk, hrk⟩ : ∃ rk, rs[k]? = some rk := ⟨_, List.getElem?_eq_getElem (by rw [I.len]; omega)⟩
    by_cases hk : k < i
    · have e1 : min (k + 1) i = k + 1 := by omega
      have e2 : min k i = k := by omega
      rw [e1]; rw [e2] at ih
      simp only [H, hrk]
      · simp only [cond_true]
        cases hLk : L k with
        | true =>
          simp only [cond_true]
          exact updl_congr _ _ _ _ (.inl ih)
        | false =>
          simp only [cond_false]
          rcases I.pair k i ok o rk r hk hok ho hrk hr with h | h
          · have := hD k h (by omega)
            rw [this] at hLk; cases hLk
          · rw [updl_out _ _ _ (fun x hx e => (h.2.2.1 x hx).1 (by rw [e]; exact ht))]; exact ih
    · have e1 : min (k + 1) i = i := by omega
      have e2 : min k i = i := by omega
      rw [e1]; rw [e2] at ih
      simp only [H, hrk]
      · cases hLk : L k with
        | true =>
          simp only [cond_true]
          have hki : k ≠ i := fun e => by subst e; rw [hi] at hLk; cases hLk
          rcases I.pair i k o ok r rk (by omega) ho hok hr hrk with h | h
          · have := I.down L hL i k (by omega) h hLk
            rw [this] at hi; cases hi
          · rw [updl_out _ _ _ (fun x hx e => h.2.2.2 x hx (by rw [e]; exact ht))]; exact ih
        | false => simp only [cond_false]; exact ih
/-- listing one more -/
def lst (L : Nat → Bool) (i : Nat) : Nat → Bool := fun k => L k || Nat.beq k i
theorem lst_same (L : Nat → Bool) (i : Nat) : lst L i i = true := by simp [lst]
theorem lst_other (L : Nat → Bool) (i k : Nat) (h : k ≠ i) : lst L i k = L k := by
  have : Nat.beq k i = false := by
    cases hb : Nat.beq k i with
    | true => exact absurd (Nat.eq_of_beq_eq_true hb) h
    | false => rfl
  simp [lst, this]
theorem E_put {ops : Array Oper} {rs : List Res} (I : Indep ops rs) (env : Env) (L : Nat → Bool) (hL : ∀ k o, ops[k]? = some o → L k = true → ∀ e ∈ o.after, Region.binds .any e = true → L e.on = true)
    {i : Nat} {o : Oper} {r : Res} (ho : ops[i]? = some o) (hr : rs[i]? = some r) (hi : L i = false) :
    ∀ m, m ≤ I.n → E ops rs env (lst L i) m = if i < m then putE (E ops rs env L m) o.dst r.val else E ops rs env L m := by
  intro m
  induction m with
  | zero => intro _; simp [E]
  | succ k ih =>
    intro hm
    have ih := ih (by omega)
    obtain ⟨ok, hok⟩ : ∃ ok, ops[k]? = some ok := ⟨_, Array.getElem?_eq_getElem (by rw [I.size]; omega)⟩
    obtain ⟨rk, hrk⟩ : ∃ rk, rs[k]? = some rk := ⟨_, List.getElem?_eq_getElem (by rw [I.len]; omega)⟩
    simp only [E, hok, hrk]
    by_cases hki : k = i
    · subst hki
      rw [ho] at hok; cases hok
      rw [hr] at hrk; cases hrk
      rw [lst_same, hi, cond_true, cond_false, ih, if_neg (by omega), if_pos (by omega)]
    · rw [lst_other _ _ _ hki]
      cases hLk : L k with
      | false =>
        simp only [cond_false]
        rw [ih]
        by_cases h1 : i < k
        · rw [if_pos h1, if_pos (by omega)]
        · rw [if_neg h1, if_neg (by omega)]
      | true =>
        simp only [cond_true]
        rw [ih]
        by_cases h1 : i < k
        · rw [if_pos h1, if_pos (by omega)]
          funext t
          rw [putE_eq, putE_eq, putE_eq, putE_eq]
          rcases I.pair i k o ok r rk h1 ho hok hr hrk with h | h
          · have := I.down L hL i k (by omega) h hLk
            rw [this] at hi; cases hi
          · by_cases h2 : o.dst = some t
            · rw [if_pos h2, if_neg (h.1 t h2).2, if_pos h2]
            · rw [if_neg h2, if_neg h2]
        · rw [if_neg h1, if_neg (by omega)]
theorem updl_comm (l m : List (Nat × Option Chunk)) (h : Heap) (hd : ∀ x ∈ l, ∀ y ∈ m, y.1 ≠ x.1) : updl (updl h l) m = updl (updl h m) l := by
  funext t
  by_cases h1 : ∃ x ∈ l, x.1 = t
  · obtain ⟨x, hx, hxt⟩ := h1
    rw [updl_out m _ t (fun y hy e => hd x hx y hy (e.trans hxt.symm))]
    exact updl_congr _ _ _ _ (.inr ⟨x, hx, hxt⟩)
  · have h1' : ∀ x ∈ l, x.1 ≠ t := fun x hx e => h1 ⟨x, hx, e⟩
    rw [updl_out l _ t h1']
    exact updl_congr _ _ _ _ (.inl (updl_out l _ t h1'))
theorem H_put {ops : Array Oper} {rs : List Res} (I : Indep ops rs) (heap : Heap) (L : Nat → Bool) (hL : ∀ k o, ops[k]? = some o → L k = true → ∀ e ∈ o.after, Region.binds .any e = true → L e.on = true)
    {i : Nat} {o : Oper} {r : Res} (ho : ops[i]? = some o) (hr : rs[i]? = some r) (hi : L i = false) :
    ∀ m, m ≤ I.n → H rs heap (lst L i) m = if i < m then updl (H rs heap L m) r.wr else H rs heap L m := by
  intro m
  induction m with
  | zero => intro _; simp [H]
  | succ k ih =>
    intro hm
    have ih := ih (by omega)
    obtain ⟨ok, hok⟩ : ∃ ok, ops[k]? = some ok := ⟨_, Array.getElem?_eq_getElem (by rw [I.size]; omega)⟩
    obtain ⟨rk, hrk⟩ : ∃ rk, rs[k]? = some rk := ⟨_, List.getElem?_eq_getElem (by rw [I.len]; omega)⟩
    simp only [H, hrk]
    by_cases hki : k = i
    · subst hki
      rw [ho] at hok; cases hok
      rw [hr] at hrk; cases hrk
      rw [lst_same, hi, cond_true, cond_false, ih, if_neg (by omega), if_pos (by omega)]
    · rw [lst_other _ _ _ hki]
      cases hLk : L k with
      | false =>
        simp only [cond_false]
        rw [ih]
        by_cases h1 : i < k
        · rw [if_pos h1, if_pos (by omega)]
        · rw [if_neg h1, if_neg (by omega)]
      | true =>
        simp only [cond_true]
        rw [ih]
        by_cases h1 : i < k
        · rw [if_pos h1, if_pos (by omega)]
          rcases I.pair i k o ok r rk h1 ho hok hr hrk with h | h
          · have := I.down L hL i k (by omega) h hLk
            rw [this] at hi; cases hi
          · exact updl_comm _ _ _ (fun x hx y hy => (h.2.2.1 x hx).2 y hy)
        · rw [if_neg h1, if_neg (by omega)]
theorem RK.more {X : Fix} {used used' : Nat → Prop} {env : Env} {heap : Heap} {a : Act} {σ : Names} {κ : Kw} (h : RK X used env heap a σ κ) (hu : ∀ s, used s → used' s) : RK X used' env heap a σ κ :=
  { h with sup := fun t s hs => hu s (h.sup t s hs), hsup := fun i c hc => ⟨hu i (h.hsup i c hc).1, fun s hs => hu s ((h.hsup i c hc).2 s hs)⟩ }
/-- one operation of a region, with its guard -/
theorem gstep {P : Program} {X : Fix} {used : Nat → Prop} {env env0 : Env} {heap heap0 : Heap} {a : Act} {w : World} {nid : Nat} {ops : Array Oper} {o : Oper} {r : Res} {Q : Exit → Act → World → Prop} {K : Act → World → Prop} (hok : X.ok P) (n : Nat)
    (h : R X used env heap a w) (h1n : 1 ≤ nid) (hn : ∀ s, used s → s / 8 ≠ nid) (hv : GValid P nid ops o env0 heap0 r) (he : ∀ t ∈ o.looksAt ops, env t = env0 t) (hh : ∀ i ∈ r.rd, heap i = heap0 i) (hd : ∀ d, o.dst = some d → d < X.N)
    (hg : ∀ (j : Nat) (want : Bool), o.guard = some (j, want) → ∀ d : Nat, (ops[j]?).bind (·.dst) = some d → d ∈ o.looksAt ops)
    (hK : ∀ a' w', R X (fun s => used s ∨ s / 8 = nid) (putE env o.dst r.val) (updl heap r.wr) a' w' → K a' w') :
    if Region.wanted o (yielded ops a.tmps) then o.wpIn (rnd X.round) n P a w K Q else (∀ f, o.about P w a.eval = some f → (rnd X.round).fn f) ∧ K (a.put o.dst undef) w := by
  have hops : ∀ t, Operand.tmp t ∈ o.op.operands → env t = env0 t := fun t ht => he t (List.mem_append_left _ (List.mem_filterMap.2 ⟨.tmp t, by simpa using ht, rfl⟩))
  have hops' : ∀ t, Operand.tmp t ∈ o.op.operands → (∀ σ κ v, (env t).p σ κ v → (env0 t).p σ κ v) ∧ ∀ s ∈ (env0 t).sup, s ∈ (env t).sup := fun t ht => by rw [hops t ht]; exact ⟨fun _ _ _ h => h, fun _ h => h⟩
  unfold GValid at hv
  split at hv
  · rename_i hgd
    rw [if_pos (by simp [Region.wanted, hgd])]
    exact Oper.wpIn_mono hK (step hok n h h1n hn hv hops' hh hd)
  · rename_i j want hgd
    obtain ⟨d, g, hdj, hβ, hv⟩ := hv
    have h1 : (env d).p _ _ _ := h.choose_spec.choose_spec.2.env_ d
    rw [he d (hg j want hgd d hdj)] at h1
    obtain ⟨hg1, hg2⟩ := hβ _ _ _ h1
    have hwant : Region.wanted o (yielded ops a.tmps) = true ↔ a.tmps.getD d undef = .bool want := by
      simp only [Region.wanted, hgd]
      unfold yielded
      rw [hdj]
      simp only [Option.bind_some]
      rw [Array.getD_eq_getD_getElem?]
      cases ht : a.tmps[d]? with
      | none => simp [undef]
      | some u =>
        cases u <;> simp
    rcases hv with ⟨hgg, hv⟩ | ⟨hne, rfl⟩ | ⟨A, rd, env', hv, hsup, rfl⟩
    · rw [if_pos (hwant.2 (hg1 hgg))]
      exact Oper.wpIn_mono hK (step hok n h h1n hn hv hops' hh hd)
    · rw [if_neg (fun e => hg2 hne (hwant.1 e))]
      refine ⟨fun f _ => rnd_fn _ f, hK _ _ ?_⟩
      obtain ⟨σ, κ, rfl, h⟩ := h
      exact ⟨σ, κ, rfl, (h.put o.dst hd undef (Is undef) rfl (fun s hs => by cases hs)).more fun s hs => .inl hs⟩
    · by_cases hb : g
      · rw [if_pos (hwant.2 (hg1 hb))]
        obtain ⟨hv, henv⟩ := hv hb
        refine Oper.wpIn_mono (fun a' w' hR => hK a' w' ?_) (step hok n h h1n hn hv (fun t ht => by rw [hops t ht]; exact henv t ht) hh hd)
        obtain ⟨σ, κ, rfl, hR⟩ := hR
        refine ⟨σ, κ, rfl, { hR with env_ := fun t => ?_, sup := fun t s hs => ?_ }⟩
        · have h1 := hR.env_ t
          rw [putE_eq] at h1 ⊢
          split
          · rename_i ht; rw [if_pos ht] at h1; exact ⟨fun _ => h1, fun hnb => absurd hb hnb⟩
          · rename_i ht; rw [if_neg ht] at h1; exact h1
        · have h1 := hR.sup t s
          rw [putE_eq] at hs h1
          split at hs
          · rename_i ht; rw [if_pos ht] at h1; exact h1 hs
          · rename_i ht; rw [if_neg ht] at h1; exact h1 hs
      · rw [if_neg (fun e => hg2 hb (hwant.1 e))]
        refine ⟨fun f _ => rnd_fn _ f, hK _ _ ?_⟩
        obtain ⟨σ, κ, rfl, h⟩ := h
        exact ⟨σ, κ, rfl, (h.put o.dst hd undef (Cnd g A) ⟨fun hb' => absurd hb' hb, fun _ => rfl⟩ (fun s hs => by
          obtain ⟨t, ht, hst⟩ := hsup s hs
          rw [← hops t ht] at hst
          exact h.sup t s hst)).more fun s hs => .inl hs⟩
/-- the operations one behind the other -/
theorem runs_plain {P : Program} {X : Fix} {c : Nat} {ops : Array Oper} {Q : Exit → Act → World → Prop} (hok : X.ok P) (n : Nat) (hc1 : 1 ≤ c) (hg : ∀ (k : Nat) (o : Oper), ops[k]? = some o → ∀ (j : Nat) (want : Bool), o.guard = some (j, want) → ∀ d : Nat, (ops[j]?).bind (·.dst) = some d → d ∈ o.looksAt ops) :
    ∀ (l : List Oper) (k : Nat) (env : Env) (heap : Heap) (K : List Res → Env → Heap → Prop) (a : Act) (w : World), (∀ j, l[j]? = ops[k + j]?) → Runs P X.N c ops k l env heap K → R X (fun s => s / 8 < c + k) env heap a w →
    (∀ rs env' heap' a' w', K rs env' heap' → R X (fun s => s / 8 < c + k + l.length) env' heap' a' w' → Q .normal a' w') → wpOpsIn (rnd X.round) n P ops Q (List.range' k l.length) a w
  | [], k, env, heap, K, a, w, _, hr, h, hQ => by
    simp only [List.length_nil, List.range'_zero, wpOpsIn]
    exact hQ [] env heap a w hr h
  | o :: l, k, env, heap, K, a, w, hl, hr, h, hQ => by
    obtain ⟨r, hv, hd, hr⟩ := hr
    have h0 : ops[k]? = some o := by simpa using (hl 0).symm
    simp only [List.length_cons, List.range'_succ, wpOpsIn, h0]
    refine gstep hok n h (by omega) (fun s hs => by omega) hv (fun _ _ => rfl) (fun _ _ => rfl) (fun d hd' => by rw [hd'] at hd; simpa using hd) (hg k o h0) ?_
    intro a' w' hR
    refine runs_plain hok n hc1 hg l (k + 1) _ _ _ a' w' (fun j => by have := hl (j + 1); simpa [Nat.add_assoc, Nat.add_comm 1 j] using this) hr ?_ (fun rs env' heap' a2 w2 hK hR2 => hQ (r :: rs) env' heap' a2 w2 hK ?_)
    · obtain ⟨σ, κ, hw, hR⟩ := hR
      exact ⟨σ, κ, hw, hR.more fun s hs => by
        show s / 8 < c + (k + 1)
        rcases hs with hs | hs
        · have : s / 8 < c + k := hs
          omega
        · omega⟩
    · obtain ⟨σ, κ, hw, hR2⟩ := hR2
      exact ⟨σ, κ, hw, hR2.more fun s hs => by
        have : s / 8 < c + (k + 1) + l.length := hs
        show s / 8 < c + k + (o :: l).length
        simp only [List.length_cons]; omega⟩
/-- what the text's order comes to -/
theorem runs_unfold {P : Program} {N c : Nat} {ops : Array Oper} (env : Env) (heap : Heap) :
    ∀ (l : List Oper) (k : Nat) (pre : List Res) (K : List Res → Env → Heap → Prop), pre.length = k → (∀ j, l[j]? = ops[k + j]?) → k + l.length = ops.size →
    Runs P N c ops k l (E ops pre env (fun _ => true) k) (H pre heap (fun _ => true) k) K →
    ∃ rs, rs.length = l.length ∧ K rs (E ops (pre ++ rs) env (fun _ => true) ops.size) (H (pre ++ rs) heap (fun _ => true) ops.size) ∧
      ∀ i o r, k ≤ i → ops[i]? = some o → (pre ++ rs)[i]? = some r → GValid P (c + i) ops o (E ops (pre ++ rs) env (fun _ => true) i) (H (pre ++ rs) heap (fun _ => true) i) r ∧ ∀ d, o.dst = some d → d < N
  | [], k, pre, K, hp, _, hs, h => by
    have hs' : ops.size = k := by simpa using hs.symm
    exact ⟨[], rfl, by rw [List.append_nil, hs']; exact h, fun i o r hi ho => by
      have := (Array.getElem?_eq_some_iff.1 ho).1
      omega⟩
  | o :: l, k, pre, K, hp, hl, hs, ⟨r, hv, hd, h⟩ => by
    have h0 : ops[k]? = some o := by simpa using (hl 0).symm
    have hE : ∀ m, m ≤ k → ∀ rs, E ops (pre ++ rs) env (fun _ => true) m = E ops pre env (fun _ => true) m := by
      intro m
      induction m with
      | zero => intro _ _; rfl
      | succ m ih =>
        intro hm rs
        simp only [E]
        rw [List.getElem?_append_left (by omega), ih (by omega)]
    have hH : ∀ m, m ≤ k → ∀ rs, H (pre ++ rs) heap (fun _ => true) m = H pre heap (fun _ => true) m := by
      intro m
      induction m with
      | zero => intro _ _; rfl
      | succ m ih =>
        intro hm rs
        simp only [H]
        rw [List.getElem?_append_left (by omega), ih (by omega)]
    have e1 : E ops (pre ++ [r]) env (fun _ => true) (k + 1) = putE (E ops pre env (fun _ => true) k) o.dst r.val := by
      simp only [E, h0]
      rw [List.getElem?_append_right (by omega), hp]
      simp only [Nat.sub_self, List.getElem?_cons_zero, cond_true]
      rw [hE k (Nat.le_refl _)]
    have e2 : H (pre ++ [r]) heap (fun _ => true) (k + 1) = updl (H pre heap (fun _ => true) k) r.wr := by
      simp only [H]
      rw [List.getElem?_append_right (by omega), hp]
      simp only [Nat.sub_self, List.getElem?_cons_zero, cond_true]
      rw [hH k (Nat.le_refl _)]
    rw [← e1, ← e2] at h
    obtain ⟨rs, h1, h2, h3⟩ := runs_unfold env heap l (k + 1) (pre ++ [r]) _ (by simp [hp]) (fun j => by have := hl (j + 1); simpa [Nat.add_assoc, Nat.add_comm 1 j] using this) (by simp at hs; omega) h
    simp only [List.append_assoc, List.singleton_append] at h2 h3
    refine ⟨r :: rs, by simp [h1], h2, fun i o' r' hi ho' hr' => ?_⟩
    by_cases hik : i = k
    · subst hik
      rw [h0] at ho'; cases ho'
      have : r' = r := by
        rw [List.getElem?_append_right (by omega), hp] at hr'
        simpa using hr'.symm
      subst this
      rw [hE i (Nat.le_refl _), hH i (Nat.le_refl _)]
      exact ⟨hv, fun d hd' => by rw [hd'] at hd; simpa using hd⟩
    · exact h3 i o' r' (by omega) ho' hr'
theorem E_all {ops : Array Oper} {rs : List Res} {env : Env} {L : Nat → Bool} : ∀ m, (∀ k, k < m → L k = true) → E ops rs env L m = E ops rs env (fun _ => true) m
  | 0, _ => rfl
  | m + 1, h => by
    simp only [E]
    rw [E_all m (fun k hk => h k (by omega)), h m (by omega)]
theorem H_all {rs : List Res} {heap : Heap} {L : Nat → Bool} : ∀ m, (∀ k, k < m → L k = true) → H rs heap L m = H rs heap (fun _ => true) m
  | 0, _ => rfl
  | m + 1, h => by
    simp only [H]
    rw [H_all m (fun k hk => h k (by omega)), h m (by omega)]
def Lf (listed : Array Bool) : Nat → Bool := fun k => listed.getD k false
theorem Lf_set (listed : Array Bool) (i : Nat) (hi : i < listed.size) : Lf (listed.setIfInBounds i true) = lst (Lf listed) i := by
  funext k
  by_cases h : k = i
  · subst h
    rw [lst_same]
    simp [Lf, hi]
  · rw [lst_other _ _ _ h]
    simp only [Lf]
    exact getD_set_ne false (fun e => h e.symm)
theorem any_sound {P : Program} {X : Fix} {c : Nat} {ops : Array Oper} {rs : List Res} {env : Env} {heap : Heap} {Q : Exit → Act → World → Prop} (hok : X.ok P) (n : Nat) (hc1 : 1 ≤ c) (I : Indep ops rs)
    (hv : ∀ i o r, ops[i]? = some o → rs[i]? = some r → GValid P (c + i) ops o (E ops rs env (fun _ => true) i) (H rs heap (fun _ => true) i) r ∧ ∀ d, o.dst = some d → d < X.N)
    (hQ : ∀ a w, R X (fun s => s / 8 < c + I.n) (E ops rs env (fun _ => true) I.n) (H rs heap (fun _ => true) I.n) a w → Q .normal a w) :
    ∀ (fuel : Nat) (listed : Array Bool) (a : Act) (w : World), listed.size = I.n → (∀ k o, ops[k]? = some o → Lf listed k = true → ∀ e ∈ o.after, Region.binds .any e = true → Lf listed e.on = true) →
      (List.range I.n).countP (fun k => !Lf listed k) = fuel → R X (fun s => s / 8 < c ∨ ∃ k, k < I.n ∧ Lf listed k = true ∧ s / 8 = c + k) (E ops rs env (Lf listed) I.n) (H rs heap (Lf listed) I.n) a w → wpAnyIn (rnd X.round) n P .any ops Q fuel listed a w := by
  have fin : ∀ (listed : Array Bool) (a : Act) (w : World), (∀ k, k < I.n → Lf listed k = true) → R X (fun s => s / 8 < c ∨ ∃ k, k < I.n ∧ Lf listed k = true ∧ s / 8 = c + k) (E ops rs env (Lf listed) I.n) (H rs heap (Lf listed) I.n) a w → Q .normal a w := fun listed a w hall hR => by
    rw [E_all I.n hall, H_all I.n hall] at hR
    obtain ⟨σ, κ, hw, hR⟩ := hR
    refine hQ a w ⟨σ, κ, hw, hR.more fun s hs => ?_⟩
    show s / 8 < c + I.n
    rcases hs with hs | ⟨k, hk, _, hs⟩ <;> omega
  intro fuel
  induction fuel with
  | zero =>
    intro listed a w hsz _ hcnt hR
    have hall : ∀ k, k < I.n → Lf listed k = true := fun k hk => by
      have := List.countP_eq_zero.1 hcnt k (by simpa using hk)
      simpa using this
    refine ⟨?_, fin listed a w hall hR⟩
    apply List.eq_nil_iff_forall_not_mem.2
    intro i hi
    obtain ⟨h1, o, ho, _⟩ := mem_ready.1 hi
    have hin : i < I.n := by rw [← I.size]; exact (Array.getElem?_eq_some_iff.1 ho).1
    have h2 := hall i hin
    have hl : i < listed.size := by omega
    simp only [Lf, Array.getD_eq_getD_getElem?, Array.getElem?_eq_getElem hl, Option.getD_some] at h1 h2
    rw [h1] at h2; cases h2
  | succ fuel ih =>
    intro listed a w hsz hclosed hcnt hR
    refine ⟨fun hnil => ?_, fun i hi => ?_⟩
    · refine fin listed a w ?_ hR
      intro k
      induction k using Nat.strongRecOn with
      | _ k ihk =>
        intro hk
        cases hLk : Lf listed k with
        | true => rfl
        | false =>
          obtain ⟨o, ho⟩ : ∃ o, ops[k]? = some o := ⟨_, Array.getElem?_eq_getElem (by rw [I.size]; exact hk)⟩
          have hl : k < listed.size := by omega
          have : k ∈ Region.ready .any ops listed := mem_ready.2 ⟨by
            simp only [Lf, Array.getD_eq_getD_getElem?, Array.getElem?_eq_getElem hl, Option.getD_some] at hLk ⊢
            exact hLk, o, ho, fun e he hb => by
            have hlt := I.edge k o ho e he hb
            exact ihk e.on hlt (by omega)⟩
          rw [hnil] at this; cases this
    · obtain ⟨h1, o, ho, hpre⟩ := mem_ready.1 hi
      have hin : i < I.n := by rw [← I.size]; exact (Array.getElem?_eq_some_iff.1 ho).1
      have hl : i < listed.size := by omega
      obtain ⟨r, hr⟩ : ∃ r, rs[i]? = some r := ⟨_, List.getElem?_eq_getElem (by rw [I.len]; exact hin)⟩
      have hLi : Lf listed i = false := by
        simp only [Lf, Array.getD_eq_getD_getElem?, Array.getElem?_eq_getElem hl, Option.getD_some] at h1 ⊢
        exact h1
      obtain ⟨hgv, hd⟩ := hv i o r ho hr
      have hmin : min I.n i = i := by omega
      unfold wpOpIn
      rw [ho]
      refine gstep hok n hR (by omega) (fun s hs => ?_) hgv (fun t ht => ?_) (fun j hj => ?_) hd (I.grd i o ho) ?_
      · rcases hs with hs | ⟨k, hk, hLk, hs⟩
        · have : s / 8 < c := hs
          omega
        · intro e
          have : k = i := by omega
          subst this
          rw [hLi] at hLk; cases hLk
      · have := E_env I env (Lf listed) hclosed ho hr hLi hpre t ht I.n (Nat.le_refl _)
        rwa [hmin] at this
      · have := H_heap I heap (Lf listed) hclosed ho hr hLi hpre j hj I.n (Nat.le_refl _)
        rwa [hmin] at this
      · intro a' w' hR'
        have e1 := E_put I env (Lf listed) hclosed ho hr hLi I.n (Nat.le_refl _)
        have e2 := H_put I heap (Lf listed) hclosed ho hr hLi I.n (Nat.le_refl _)
        rw [if_pos hin] at e1 e2
        rw [← e1, ← e2, ← Lf_set listed i hl] at hR'
        refine ih (listed.setIfInBounds i true) a' w' (by simpa using hsz) ?_ ?_ ?_
        · intro k ok hk hLk e he hb
          rw [Lf_set listed i hl] at hLk ⊢
          by_cases hki : k = i
          · subst hki
            rw [ho] at hk; cases hk
            have := hpre e he hb
            simp only [lst, Bool.or_eq_true]
            exact .inl this
          · rw [lst_other _ _ _ hki] at hLk
            simp only [lst, Bool.or_eq_true]
            exact .inl (hclosed k ok hk hLk e he hb)
        · rw [Lf_set listed i hl]
          have key : ∀ (l : List Nat), l.Nodup → i ∈ l → l.countP (fun k => !lst (Lf listed) i k) + 1 = l.countP (fun k => !Lf listed k) := by
            intro l
            induction l with
            | nil => intro _ h; cases h
            | cons x l ihl =>
              intro hnd hmem
              obtain ⟨hx, hnd⟩ := List.nodup_cons.1 hnd
              by_cases hxi : x = i
              · subst hxi
                have h0 : l.countP (fun k => !lst (Lf listed) x k) = l.countP (fun k => !Lf listed k) := by
                  apply List.countP_congr
                  intro y hy
                  rw [lst_other _ _ y (fun e => hx (by rw [← e]; exact hy))]
                rw [List.countP_cons_of_neg (by simp [lst_same]), List.countP_cons_of_pos (by simp [hLi]), h0]
              · have hm : i ∈ l := by
                  rcases List.mem_cons.1 hmem with h | h
                  · exact absurd h.symm hxi
                  · exact h
                have h0 := ihl hnd hm
                simp only [List.countP_cons, lst_other _ _ _ hxi]
                omega
          have := key (List.range I.n) List.nodup_range (by simpa using hin)
          omega
        · obtain ⟨σ, κ, hw, hR'⟩ := hR'
          refine ⟨σ, κ, hw, hR'.more fun s hs => ?_⟩
          rcases hs with (hs | ⟨k, hk, hLk, hs⟩) | hs
          · exact .inl hs
          · refine .inr ⟨k, hk, ?_, hs⟩
            rw [Lf_set listed i hl]; simp only [lst, Bool.or_eq_true]; exact .inl hLk
          · exact .inr ⟨i, hin, by rw [Lf_set listed i hl]; exact lst_same _ _, hs⟩
/-! ### the check -/
def closeB (A : List (List Nat)) (ops : List Oper) : Bool :=
  (List.range ops.length).all fun k => match ops[k]?, A[k]? with
    | some o, some l => l.all fun j => o.after.any (fun e => Region.binds .any e && (Nat.beq e.on j || ((A[e.on]?).getD []).contains j))
    | _, _ => false
def edgeB (ops : List Oper) : Bool := (List.range ops.length).all fun k => match ops[k]? with
    | some o => o.after.all fun e => !Region.binds .any e || Nat.blt e.on k
    | none => false
def grdB (ops : List Oper) : Bool := ops.all fun o => match o.guard with
    | none => true
    | some (j, _) => match (ops.toArray[j]?).bind (·.dst) with
      | some d => (o.looksAt ops.toArray).contains d
      | none => true
def pairB (A : List (List Nat)) (rd wr : List (List Nat)) (ops : List Oper) : Bool :=
  (List.range ops.length).all fun k => (List.range k).all fun j => ((A[k]?).getD []).contains j || match ops[j]?, ops[k]? with
    | some oj, some ok =>
      (match oj.dst with | some d => !(ok.looksAt ops.toArray).contains d && ok.dst != some d | none => true) &&
      (match ok.dst with | some d => !(oj.looksAt ops.toArray).contains d | none => true) &&
      ((wr[j]?).getD []).all (fun x => !((rd[k]?).getD []).contains x && !((wr[k]?).getD []).contains x) && ((wr[k]?).getD []).all (fun y => !((rd[j]?).getD []).contains y)
    | _, _ => false
/-- who is ahead of whom, by the edges -/
def anc (ops : List Oper) : List (List Nat) :=
  ops.foldl (init := []) fun acc o => acc ++ [(o.after.toList.foldl (init := []) fun s e => if Region.binds .any e then (e.on :: ((acc[e.on]?).getD [])).foldl (fun s x => if s.contains x then s else x :: s) s else s)]
def indepB (rd wr : List (List Nat)) (ops : List Oper) : Bool :=
  let A := anc ops
  closeB A ops && edgeB ops && grdB ops && pairB A rd wr ops
def Indep.mk' {ops : List Oper} {rs : List Res} (rd wr : List (List Nat)) (hrd : rs.map Res.rd = rd) (hwr : rs.map (fun r => r.wr.map Prod.fst) = wr) (hl : rs.length = ops.length) (hB : indepB rd wr ops = true) : Indep ops.toArray rs where
  ordered := fun j k => j ∈ (((anc ops)[k]?).getD [])
  n := ops.length
  size := by simp
  len := hl
  edge := fun k o ho e he hb => by
    simp only [indepB, Bool.and_eq_true] at hB
    have h1 := hB.1.1.2
    simp only [edgeB, List.all_eq_true, List.mem_range] at h1
    have ho' : ops[k]? = some o := by simpa using ho
    have hk : k < ops.length := (List.getElem?_eq_some_iff.1 ho').1
    have h2 := h1 k hk
    rw [ho'] at h2
    simp only [Array.all_eq_true_iff_forall_mem] at h2
    have h3 := h2 e he
    rw [hb] at h3
    simp only [Bool.not_true, Bool.false_or] at h3
    simpa [Nat.blt_eq] using h3
  grd := fun k o ho j want hg d hd => by
    simp only [indepB, Bool.and_eq_true] at hB
    have h1 := hB.1.2
    simp only [grdB, List.all_eq_true] at h1
    have h2 := h1 o (by have : ops[k]? = some o := by simpa using ho
                        exact List.mem_of_getElem? this)
    rw [hg] at h2
    simp only at h2
    rw [hd] at h2
    simpa using h2
  down := fun D hD j k hk hj hDk => by
    simp only [indepB, Bool.and_eq_true] at hB
    have h1 := hB.1.1.1
    have h2 := hB.1.1.2
    simp only [closeB, edgeB, List.all_eq_true, List.mem_range] at h1 h2
    induction k using Nat.strongRecOn with
    | _ k ih =>
      have h3 := h1 k hk
      have h4 := h2 k hk
      have ho : ops[k]? = some ops[k] := List.getElem?_eq_getElem hk
      rw [ho] at h3 h4
      cases hA : (anc ops)[k]? with
      | none => rw [hA] at h3; cases h3
      | some l =>
        rw [hA] at h3 hj
        simp only [Option.getD_some] at hj
        simp only [List.all_eq_true] at h3
        obtain ⟨e, he, hb⟩ := Array.any_eq_true'.1 (h3 j hj)
        simp only [Bool.and_eq_true, Bool.or_eq_true] at hb
        have hDe := hD k ops[k] (by simp) hDk e he hb.1
        rcases hb.2 with h5 | h5
        · rw [← Nat.eq_of_beq_eq_true h5]; exact hDe
        · have hlt : e.on < k := by
            have h6 := (Array.all_eq_true_iff_forall_mem.1 h4) e he
            rw [hb.1] at h6
            simp only [Bool.not_true, Bool.false_or] at h6
            simpa [Nat.blt_eq] using h6
          exact ih e.on hlt (by omega) (by simpa using h5) hDe
  pair := fun j k oj ok rj rk hjk hoj hok hrj hrk => by
    simp only [indepB, Bool.and_eq_true] at hB
    have h1 := hB.2
    simp only [pairB, List.all_eq_true, List.mem_range] at h1
    have hoj' : ops[j]? = some oj := by simpa using hoj
    have hok' : ops[k]? = some ok := by simpa using hok
    have hk : k < ops.length := (List.getElem?_eq_some_iff.1 hok').1
    have h2 := h1 k hk j hjk
    rw [hoj', hok'] at h2
    have e1 : rd[j]? = some rj.rd := by rw [← hrd, List.getElem?_map, hrj]; rfl
    have e2 : rd[k]? = some rk.rd := by rw [← hrd, List.getElem?_map, hrk]; rfl
    have e3 : wr[j]? = some (rj.wr.map Prod.fst) := by rw [← hwr, List.getElem?_map, hrj]; rfl
    have e4 : wr[k]? = some (rk.wr.map Prod.fst) := by rw [← hwr, List.getElem?_map, hrk]; rfl
    rw [e1, e2, e3, e4] at h2
    simp only [Option.getD_some, Bool.or_eq_true, Bool.and_eq_true, List.all_eq_true] at h2
    rcases h2 with h2 | ⟨⟨⟨h2, h3⟩, h4⟩, h5⟩
    · exact .inl (by simpa using h2)
    · refine .inr ⟨fun d hd => ?_, fun d hd => ?_, fun x hx => ?_, fun y hy hy' => ?_⟩
      · rw [hd] at h2
        simp only [Bool.and_eq_true, Bool.not_eq_true', bne_iff_ne, ne_eq] at h2
        exact ⟨by simpa using h2.1, h2.2⟩
      · rw [hd] at h3
        simpa using h3
      · have := h4 x.1 (List.mem_map.2 ⟨x, hx, rfl⟩)
        simp only [Bool.not_eq_true', List.contains_eq_mem, decide_eq_false_iff_not, List.mem_map, not_exists, not_and] at this
        exact ⟨this.1, fun y hy => this.2 y hy⟩
      · have := h5 y.1 (List.mem_map.2 ⟨y, hy, rfl⟩)
        simp only [Bool.not_eq_true', List.contains_eq_mem, decide_eq_false_iff_not] at this
        exact this hy'
end Ab
end Go.Proofs.Ytmilegikgbmjpaa
