/-
  CODE OVER ABSTRACT STATES: sequences, tests, blocks, loops; a function's contract.
-/
import Derived.Test.YtmilegikgbmjpaaAb2
import Derived.Scope
import Derived.ScopeJumps
import Derived.Below
namespace Go.Proofs.Ytmilegikgbmjpaa
open Go.RowKit
namespace Ab
structure St where
  env : Env
  heap : Heap
  cnt : Nat
def RS (X : Fix) (st : St) (a : Act) (w : World) : Prop := 1 ≤ st.cnt ∧ R X (fun s => s / 8 < st.cnt) st.env st.heap a w
def W (P : Program) (N : Nat) (c : Code) (st : St) (Q : Exit → St → Prop) : Prop :=
  ∀ X n a w, X.ok P → X.N = N → RS X st a w → c.wpIn (rnd X.round) n P (fun e a' w' => ∃ st', Q e st' ∧ RS X st' a' w') a w
theorem W.mono {P : Program} {N : Nat} {c : Code} {st : St} {Q Q' : Exit → St → Prop} (h : W P N c st Q) (hq : ∀ e st, Q e st → Q' e st) : W P N c st Q' :=
  fun X n a w hok hX hR => wpIn_mono (h X n a w hok hX hR) fun e _a' _w' ⟨st', h1, h2⟩ => ⟨st', hq e st' h1, h2⟩
section
variable {P : Program} {N : Nat} {st : St} {Q : Exit → St → Prop}
theorem W_skip (h : Q .normal st) : W P N .skip st Q := fun _ _ _ _ _ _ hR => wpIn_skip ⟨st, h, hR⟩
theorem W_label {l : Nat} (h : Q .normal st) : W P N (.label l) st Q := fun _ _ _ _ _ _ hR => wpIn_label ⟨st, h, hR⟩
theorem W_ret (h : Q .ret st) : W P N .ret st Q := fun _ _ _ _ _ _ hR => wpIn_ret ⟨st, h, hR⟩
theorem W_exit {id : Nat} (h : Q (.exit id) st) : W P N (.exit id) st Q := fun _ _ _ _ _ _ hR => wpIn_exit ⟨st, h, hR⟩
theorem W_goto {id : Nat} (h : Q (.goto id) st) : W P N (.goto id) st Q := fun _ _ _ _ _ _ hR => wpIn_goto ⟨st, h, hR⟩
def thenQ (P : Program) (N : Nat) (b : Code) (Q : Exit → St → Prop) : Exit → St → Prop
  | .normal, st => W P N b st Q
  | e, st => Q e st
theorem W_seq {x y : Code} (h : W P N x st (thenQ P N y Q)) : W P N (.seq x y) st Q := fun X n a w hok hX hR =>
  wpIn_seq (wpIn_mono (h X n a w hok hX hR) fun e a' w' ⟨st', h1, h2⟩ => by
    cases e <;> first
      | exact h1 X n a' w' hok hX h2
      | exact ⟨st', h1, h2⟩)
def blockQ (id : Nat) (Q : Exit → St → Prop) : Exit → St → Prop
  | .exit id', st => bif Nat.beq id' id then Q .normal st else Q (.exit id') st
  | e, st => Q e st
theorem W_block {id : Nat} {c : Code} (h : W P N c st (blockQ id Q)) : W P N (.block id c) st Q := fun X n a w hok hX hR =>
  wpIn_block (wpIn_mono (h X n a w hok hX hR) fun e a' w' ⟨st', h1, h2⟩ => by
    cases e with
    | exit id' =>
      simp only [blockQ] at h1
      simp only [Exit.inBlock]
      cases hb : Nat.beq id' id with
      | true =>
        rw [hb] at h1
        rw [if_pos (Nat.eq_of_beq_eq_true hb)]
        exact ⟨st', h1, h2⟩
      | false =>
        rw [hb] at h1
        rw [if_neg (fun e => by rw [e] at hb; simp at hb)]
        exact ⟨st', h1, h2⟩
    | normal => exact ⟨st', h1, h2⟩
    | goto _ => exact ⟨st', h1, h2⟩
    | ret => exact ⟨st', h1, h2⟩
    | panic _ => exact ⟨st', h1, h2⟩
    | outgrown => exact ⟨st', h1, h2⟩)
theorem W_cond {c : Operand} {x y : Code} (β : Bool) (hc : ρof st.env c = Is (.bool β)) (ht : β = true → W P N x st Q) (hf : β = false → W P N y st Q) : W P N (.cond c x y) st Q := fun X n a w hok hX hR => by
  have he : a.eval c = .bool β := by
    obtain ⟨_, σ, κ, _, h⟩ := hR
    have := h.eval c
    rw [hc] at this
    exact this
  exact wpIn_cond_split he (fun h => ht h X n a w hok hX hR) (fun h => hf h X n a w hok hX hR)
theorem R.drew {X : Fix} {used : Nat → Prop} {env : Env} {heap : Heap} {a : Act} {w : World} (h : R X used env heap a w) : R X used env heap a { w with drawn := w.drawn + 1 } := by
  obtain ⟨σ, κ, rfl, h⟩ := h
  have hle : κ.le ⟨{ κ.w with drawn := κ.w.drawn + 1 }, κ.own, κ.lt⟩ := ⟨rfl, rfl, rfl, Nat.le_refl _, fun _ _ h => ⟨h, rfl⟩, fun b k h => ⟨fun k' h' => by have : κ.own b = some k' := h'; rw [h] at this; cases this; exact Nat.le_refl _, fun _ _ _ h => h⟩⟩
  exact ⟨σ, ⟨{ κ.w with drawn := κ.w.drawn + 1 }, κ.own, κ.lt⟩, rfl, { h with
    le0 := Kw.le_trans h.le0 hle
    env_ := fun t => (env t).mono hle (h.env_ t)
    hr := ⟨fun i c hc => Chunk.keep hle (fun _ _ => ⟨rfl, rfl⟩) (h.hr.at_ i c hc), h.hr.far, h.hr.base⟩
    prot := by
      obtain ⟨D, ms, hp⟩ := h.prot
      exact ⟨D, ms, hp.to hle (fun _ _ => ⟨rfl, rfl⟩) (fun _ _ => ⟨rfl, rfl⟩) hp.far (fun _ _ h => h)⟩ }⟩
theorem W_region {id : Nat} {ops : List Oper} (hg : grdB ops = true)
    (h : Runs P N st.cnt ops.toArray 0 ops st.env st.heap (fun _ env heap => Q .normal ⟨env, heap, st.cnt + ops.length⟩)) : W P N (.region id ops.toArray false) st Q := fun X n a w hok hX hR => by
  subst hX
  refine wpIn_region ?_
  have hg' : ∀ (k : Nat) (o : Oper), ops.toArray[k]? = some o → ∀ (j : Nat) (want : Bool), o.guard = some (j, want) → ∀ d : Nat, (ops.toArray[j]?).bind (·.dst) = some d → d ∈ o.looksAt ops.toArray := fun k o ho j want hgd d hd => by
    simp only [grdB, List.all_eq_true] at hg
    have h2 := hg o (by have : ops[k]? = some o := by simpa using ho
                        exact List.mem_of_getElem? this)
    rw [hgd] at h2
    simp only at h2
    rw [hd] at h2
    simpa using h2
  have := runs_plain (P := P) (X := X) (c := st.cnt) (ops := ops.toArray) (Q := fun e a' w' => ∃ st', Q e st' ∧ RS X st' a' w') hok n hR.1 hg' ops 0 st.env st.heap _ a w (fun j => by simp) h hR.2 (fun rs env' heap' a' w' hK hR' => ⟨_, hK, Nat.le_trans hR.1 (Nat.le_add_right _ _), hR'⟩)
  rw [List.range_eq_range']
  simpa using this
theorem W_draw {id : Nat} {ops : List Oper} (hm : P.follows .mixedOrders = true)
    (h : Runs P N st.cnt ops.toArray 0 ops st.env st.heap (fun rs env heap => ∃ rd wr, rs.map Res.rd = rd ∧ rs.map (fun r => r.wr.map Prod.fst) = wr ∧ indepB rd wr ops = true ∧ Q .normal ⟨env, heap, st.cnt + ops.length⟩)) : W P N (.region id ops.toArray true) st Q := fun X n a w hok hX hR => by
  subst hX
  refine wpIn_region_any hm ?_
  obtain ⟨rs, h1, ⟨rd, wr, h2, h3, h4, h5⟩, h6⟩ := runs_unfold (P := P) (N := X.N) (c := st.cnt) (ops := ops.toArray) st.env st.heap ops 0 [] _ rfl (fun j => by simp) (by simp) h
  simp only [List.nil_append] at h2 h3 h5 h6
  have I : Indep ops.toArray rs := Indep.mk' rd wr h2 h3 h1 h4
  refine any_sound (c := st.cnt) (rs := rs) (env := st.env) (heap := st.heap) hok n hR.1 (Indep.mk' rd wr h2 h3 h1 h4) (fun i o r ho hr => h6 i o r (Nat.zero_le _) ho hr) ?_ ops.toArray.size _ a _ ?_ ?_ ?_ ?_
  · intro a' w' hR'
    refine ⟨_, h5, Nat.le_trans hR.1 (Nat.le_add_right _ _), ?_⟩
    have e : ops.toArray.size = (Indep.mk' rd wr h2 h3 h1 h4).n := by simp [Indep.mk']
    rw [e]
    exact hR'
  · simp [Indep.mk']
  · intro k o _ hL
    simp [Lf] at hL
    have := Array.getElem?_replicate (n := ops.length) (v := false) (i := k)
    rw [this] at hL
    split at hL <;> simp at hL
  · have : ∀ k, Lf (Array.replicate ops.length false) k = false := fun k => by
      unfold Lf
      rw [Array.getD_eq_getD_getElem?, Array.getElem?_replicate]
      split <;> rfl
    show (List.range ops.length).countP (fun k => !Lf (Array.replicate ops.length false) k) = ops.length
    simp [this]
  · have hf : Lf (Array.replicate ops.toArray.size false) = fun _ => false := by
      funext k
      unfold Lf
      rw [Array.getD_eq_getD_getElem?, Array.getElem?_replicate]
      split <;> rfl
    have hE : ∀ m, E ops.toArray rs st.env (fun _ => false) m = st.env := by
      intro m
      induction m with
      | zero => rfl
      | succ m ih => simp only [E]; split <;> simp [ih]
    have hH : ∀ m, H rs st.heap (fun _ => false) m = st.heap := by
      intro m
      induction m with
      | zero => rfl
      | succ m ih => simp only [H]; split <;> simp [ih]
    rw [hf, hE, hH]
    obtain ⟨σ, κ, hw, hR'⟩ := R.drew hR.2
    exact ⟨σ, κ, hw, hR'.more fun s hs => .inl hs⟩
/-! ### less is known -/
def Ent (st st' : St) : Prop := ∀ X a w, RS X st a w → RS X st' a w
theorem Ent.refl (st : St) : Ent st st := fun _ _ _ h => h
def AV.leq (θ : Nat → Nat) (A B : AV) : Prop := ∀ σ κ v, A.p σ κ v → B.p (fun i => σ (θ i)) κ v
def All2le (θ : Nat → Nat) : List AV → List AV → Prop
  | [], [] => True
  | A :: l, B :: m => A.leq θ B ∧ All2le θ l m
  | _, _ => False
theorem All2le.all2 {θ : Nat → Nat} {σ : Names} {κ : Kw} : ∀ {l m : List AV} {vs : List Value}, All2le θ l m → All2 σ κ l vs → All2 (fun i => σ (θ i)) κ m vs
  | [], [], [], _, _ => trivial
  | _ :: _, _ :: _, _ :: _, ⟨h1, h2⟩, ⟨h3, h4⟩ => ⟨h1 _ _ _ h3, All2le.all2 h2 h4⟩
  | [], [], _ :: _, _, h => h
  | _ :: _, _ :: _, [], _, h => h
  | [], _ :: _, _, h, _ => h.elim
  | _ :: _, [], _, h, _ => h.elim
theorem all2_known {σ : Names} {κ : Kw} : ∀ {l us : List Value}, All2 σ κ (l.map Is) us → us = l
  | [], [], _ => rfl
  | v :: l, u :: us, ⟨h1, h2⟩ => by
    have h1 : u = v := h1
    rw [h1, all2_known h2]
inductive Chunk.leq (θ : Nat → Nat) : Chunk → Chunk → Prop
  | var {t : TypeId} {cs ds : List AV} (h : All2le θ cs ds) : Chunk.leq θ (.var t cs) (.var t ds)
  | row {t : TypeId} {e n m : Nat} {xs ys : List Value} (h1 : n = m) (h2 : xs = ys) : Chunk.leq θ (.row t e n xs) (.row t e m ys)
  | buf {t : TypeId} {l m : List Value} (h : l = m) : Chunk.leq θ (.buf t l) (.buf t m)
  | arr {t : TypeId} {l m : List Value} (h : l = m) : Chunk.leq θ (.arr t l) (.arr t m)
  | arr0 {t : TypeId} {l m : List Value} (h : l = m) : Chunk.leq θ (.var t (l.map Is)) (.arr t m)
  | idx {I : ItC} {k m : Nat} (h : k = m) : Chunk.leq θ (.idx I k) (.idx I m)
theorem Chunk.leq.at_ {θ : Nat → Nat} {σ : Names} {κ : Kw} {u : Value} {c d : Chunk} (h : Chunk.leq θ c d) (hc : c.at σ κ u) : d.at (fun i => σ (θ i)) κ u := by
  cases h with
  | var h => obtain ⟨b, us, h1, h2, h3, h4⟩ := hc; exact ⟨b, us, h1, h2, h.all2 h3, h4⟩
  | row h1 h2 => subst h1 h2; exact hc
  | buf h => subst h; exact hc
  | arr h => subst h; exact hc
  | arr0 h => subst h; obtain ⟨b, us, h1, h2, h3, h4⟩ := hc; exact ⟨b, h1, by rw [h2, ← all2_known h3], h4⟩
  | idx h => exact hc
def envOf : List (Nat × AV) → Env
  | [] => fun _ => Any
  | (k, A) :: l => upd (envOf l) k A
def hpOf : List (Nat × Chunk) → Heap
  | [] => fun _ => none
  | (k, A) :: l => upd (hpOf l) k (some A)
def EnvLe (θ : Nat → Nat) (env : Env) : List (Nat × AV) → Prop
  | [] => True
  | (k, B) :: l => (env k).leq θ B ∧ EnvLe θ env l
def HpLe (θ : Nat → Nat) (heap : Heap) : List (Nat × Chunk) → Prop
  | [] => True
  | (k, d) :: l => (∃ c, heap (θ k) = some c ∧ Chunk.leq θ c d) ∧ HpLe θ heap l
theorem EnvLe.at_ {θ : Nat → Nat} {env : Env} : ∀ {l : List (Nat × AV)}, EnvLe θ env l → ∀ t, (env t).leq θ (envOf l t)
  | [], _, t => fun _ _ _ _ => trivial
  | (k, B) :: l, ⟨h1, h2⟩, t => by
    by_cases h : t = k
    · subst h; simp only [envOf, upd_same]; exact h1
    · simp only [envOf, upd_other _ _ _ _ h]; exact EnvLe.at_ h2 t
theorem HpLe.at_ {θ : Nat → Nat} {heap : Heap} : ∀ {l : List (Nat × Chunk)}, HpLe θ heap l → ∀ i d, hpOf l i = some d → (∃ c, heap (θ i) = some c ∧ Chunk.leq θ c d)
  | [], _, i, d, h => by cases h
  | (k, B) :: l, ⟨h1, h2⟩, i, d, h => by
    by_cases e : i = k
    · subst e; simp only [hpOf, upd_same] at h; cases h; exact h1
    · simp only [hpOf, upd_other _ _ _ _ e] at h; exact HpLe.at_ h2 i d h
theorem hpOf_mem : ∀ {l : List (Nat × Chunk)} {i : Nat} {d : Chunk}, hpOf l i = some d → (i, d) ∈ l
  | [], i, d, h => by cases h
  | (k, B) :: l, i, d, h => by
    by_cases e : i = k
    · subst e; simp only [hpOf, upd_same] at h; cases h; simp
    · simp only [hpOf, upd_other _ _ _ _ e] at h; exact List.mem_cons_of_mem _ (hpOf_mem h)
theorem envOf_sup : ∀ {l : List (Nat × AV)} {t s : Nat}, s ∈ (envOf l t).sup → ∃ x ∈ l, s ∈ x.2.sup
  | [], t, s, h => by cases h
  | (k, B) :: l, t, s, h => by
    by_cases e : t = k
    · subst e; simp only [envOf, upd_same] at h; exact ⟨_, List.mem_cons_self, h⟩
    · simp only [envOf, upd_other _ _ _ _ e] at h
      obtain ⟨x, hx, hs⟩ := envOf_sup h
      exact ⟨x, List.mem_cons_of_mem _ hx, hs⟩
def SupE (cnt : Nat) : List (Nat × AV) → Prop
  | [] => True
  | (_, B) :: l => (∀ s ∈ B.sup, s / 8 < cnt) ∧ SupE cnt l
def SupH (cnt : Nat) : List (Nat × Chunk) → Prop
  | [] => True
  | (i, d) :: l => (i / 8 < cnt ∧ ∀ s ∈ d.sup, s / 8 < cnt) ∧ SupH cnt l
theorem SupE.mem {cnt : Nat} : ∀ {l : List (Nat × AV)}, SupE cnt l → ∀ x ∈ l, ∀ s ∈ x.2.sup, s / 8 < cnt
  | _ :: _, ⟨h1, h2⟩, x, hx => by
    rcases List.mem_cons.1 hx with rfl | hx
    · exact h1
    · exact SupE.mem h2 x hx
theorem SupH.mem {cnt : Nat} : ∀ {l : List (Nat × Chunk)}, SupH cnt l → ∀ x ∈ l, x.1 / 8 < cnt ∧ ∀ s ∈ x.2.sup, s / 8 < cnt
  | _ :: _, ⟨h1, h2⟩, x, hx => by
    rcases List.mem_cons.1 hx with rfl | hx
    · exact h1
    · exact SupH.mem h2 x hx
/-- names that are unlike stay so -/
def injB (θ : Nat → Nat) : List (Nat × Chunk) → Bool
  | [] => true
  | (i, _) :: l => l.all (fun x => Nat.beq x.1 i || !Nat.beq (θ x.1) (θ i)) && injB θ l
theorem injB.spec {θ : Nat → Nat} : ∀ {l : List (Nat × Chunk)}, injB θ l = true → ∀ x ∈ l, ∀ y ∈ l, x.1 ≠ y.1 → θ x.1 ≠ θ y.1
  | (i, c) :: l, h, x, hx, y, hy, hne => by
    simp only [injB, Bool.and_eq_true, List.all_eq_true, Bool.or_eq_true, Bool.not_eq_true'] at h
    have key : ∀ z ∈ l, z.1 ≠ i → θ z.1 ≠ θ i := fun z hz hzi e => by
      rcases h.1 z hz with h1 | h1
      · exact hzi (Nat.eq_of_beq_eq_true h1)
      · rw [e] at h1; simp at h1
    rcases List.mem_cons.1 hx with rfl | hx <;> rcases List.mem_cons.1 hy with rfl | hy
    · exact absurd rfl hne
    · exact fun e => key y hy (fun e => hne e.symm) e.symm
    · exact key x hx hne
    · exact injB.spec h.2 x hx y hy hne
theorem Ent.of {st : St} {l : List (Nat × AV)} {hl : List (Nat × Chunk)} {cnt : Nat} (θ : Nat → Nat) (hc1 : 1 ≤ cnt) (hθ : ∀ i, i < 8 → θ i = i) (he : EnvLe θ st.env l) (hh : HpLe θ st.heap hl) (hi : injB θ hl = true) (h1 : SupE cnt l) (h2 : SupH cnt hl) : Ent st ⟨envOf l, hpOf hl, cnt⟩ := by
  intro X a w ⟨_, σ, κ, hw, h⟩
  refine ⟨hc1, fun i => σ (θ i), κ, hw, { tmps := h.tmps, prot := ?prot, base := h.base, pin := fun i hi => by rw [hθ i hi]; exact h.pin i hi, env_ := fun t => he.at_ t σ κ _ (h.env_ t), le0 := h.le0, old := h.old, hr := ⟨?_, ?_, ?_⟩, sup := ?_, hsup := ?_ }⟩
  · intro i d hd
    obtain ⟨c, hc, hle⟩ := hh.at_ i d hd
    exact hle.at_ (h.hr.at_ (θ i) c hc)
  · intro i j g hij hni hnj hg
    cases hdi : hpOf hl i with
    | none => exact absurd hdi hni
    | some d =>
      cases hdj : hpOf hl j with
      | none => exact absurd hdj hnj
      | some d' =>
        obtain ⟨c, hc, _⟩ := hh.at_ i d hdi
        obtain ⟨c', hc', _⟩ := hh.at_ j d' hdj
        refine h.hr.far (θ i) (θ j) g (injB.spec hi (i, d) (hpOf_mem hdi) (j, d') (hpOf_mem hdj) hij) (by rw [hc]; simp) (by rw [hc']; simp) hg
  · intro i d g hd hg
    obtain ⟨c, hc, _⟩ := hh.at_ i d hd
    exact h.hr.base (θ i) c g hc hg
  · intro t s hs
    obtain ⟨x, hx, hs⟩ := envOf_sup hs
    exact h1.mem x hx s hs
  · intro i c hc
    exact h2.mem (i, c) (hpOf_mem hc)
  · obtain ⟨D, ms, hp⟩ := h.prot
    refine ⟨D, ms, hp.to (Kw.le_refl κ) (fun _ _ => ⟨rfl, rfl⟩) (fun _ _ => ⟨rfl, rfl⟩) (fun i d g hd hg => ?_) (fun I k e => ?_)⟩
    · obtain ⟨c, hc, _⟩ := hh.at_ i d hd
      exact hp.far (θ i) c g hc hg
    · cases hd : hpOf hl 0 with
      | none => simp [idxOf, hd] at e
      | some d =>
        obtain ⟨c, hc, hle⟩ := hh.at_ 0 d hd
        rw [hθ 0 (by omega)] at hc
        cases d with
        | idx I' k' =>
          simp only [idxOf, hd, Option.some.injEq, Prod.mk.injEq] at e
          obtain ⟨rfl, rfl⟩ := e
          cases hle with
          | idx h => subst h; simp only [idxOf, hc]
        | _ => simp [idxOf, hd] at e
theorem W.ent {c : Code} {st' : St} (h : W P N c st' Q) (he : Ent st st') : W P N c st Q := fun X n a w hok hX hR => h X n a w hok hX (he X a w hR)
theorem least (p : Nat → Prop) (h : ∃ n, p n) : ∃ m, p m ∧ ∀ k, p k → m ≤ k := by
  obtain ⟨n, hn⟩ := h
  induction n using Nat.strongRecOn with
  | _ n ih =>
    by_cases hs : ∃ k, k < n ∧ p k
    · obtain ⟨k, hk, hp⟩ := hs
      exact ih k hk hp
    · exact ⟨n, hn, fun k hk => Nat.le_of_not_lt fun hlt => hs ⟨k, hlt, hk⟩⟩
/-- A LOOP: S tells the states at its head. -/
theorem W_loop {c : Code} {G : Type} (I : G → Prop) (S : G → St) (μ : G → Nat) (g0 : G) (hI : I g0) (h0 : Ent st (S g0))
    (round : ∀ g, I g → W P N c (S g) (fun e st' => match e with | .normal => ∃ g', I g' ∧ μ g' < μ g ∧ Ent st' (S g') | e => Q e st')) : W P N (.loop c) st Q := fun X n a w hok hX hR => by
  subst hX
  classical
  let M : Act → World → Nat := fun a w => if h : ∃ n, ∃ g, μ g = n ∧ I g ∧ RS X (S g) a w then Classical.choose (least _ h) else 0
  have hM : ∀ a w, (∃ g, I g ∧ RS X (S g) a w) → ∃ g, μ g = M a w ∧ I g ∧ RS X (S g) a w := fun a w ⟨g, h1, h2⟩ => by
    have h : ∃ n, ∃ g, μ g = n ∧ I g ∧ RS X (S g) a w := ⟨μ g, g, rfl, h1, h2⟩
    have := (Classical.choose_spec (least _ h)).1
    simp only [M, dif_pos h]
    exact this
  have hle : ∀ a w g, I g → RS X (S g) a w → M a w ≤ μ g := fun a w g h1 h2 => by
    have h : ∃ n, ∃ g, μ g = n ∧ I g ∧ RS X (S g) a w := ⟨μ g, g, rfl, h1, h2⟩
    simp only [M, dif_pos h]
    exact (Classical.choose_spec (least _ h)).2 _ ⟨g, rfl, h1, h2⟩
  refine wpIn_loop (fun a w => ∃ g, I g ∧ RS X (S g) a w) M ⟨g0, hI, h0 X a w hR⟩ ?_
  intro a w hg
  obtain ⟨g, h1, h2, h3⟩ := hM a w hg
  refine wpIn_mono (round g h2 X n a w hok rfl h3) fun e a' w' ⟨st', hq, hR'⟩ => ?_
  cases e with
  | normal =>
    obtain ⟨g', h4, h5, h6⟩ := hq
    exact ⟨⟨g', h4, h6 X a' w' hR'⟩, Nat.lt_of_le_of_lt (hle a' w' g' h4 (h6 X a' w' hR')) (by rw [← h1]; exact h5)⟩
  | exit id => exact ⟨st', hq, hR'⟩
  | goto id => exact ⟨st', hq, hR'⟩
  | ret => exact ⟨st', hq, hR'⟩
  | panic c => exact ⟨st', hq, hR'⟩
  | outgrown => exact ⟨st', hq, hR'⟩
end
end Ab
end Go.Proofs.Ytmilegikgbmjpaa
