/-
  RANGES OVER FUNCTIONS: the statement, by its body's walk and the contract of what is ranged over.
-/
import Derived.Test.YtmilegikgbmjpaaAbu
namespace Go.Proofs.Ytmilegikgbmjpaa
open Go.RowKit
namespace Ab
/-- a loop's record: whose rounds they are -/
structure RG where
  σ0 : Names
  κ0 : Kw
  fr : Nat → Prop
  frlt : ∀ b, fr b → b < κ0.w.heap.size
  l : Nat
  dm : Option Nat
  rc : LoopState → Option Code → Loop
  hin : Nat → List (Nat × Chunk)
  go : Nat → Bool
  jc : Code
def RG.st (R : RG) (k : Nat) : Loop := if (List.range k).all R.go = true then R.rc .ready none else R.rc .done (some R.jc)
/-- where it stands between two rounds -/
structure Lk (R : RG) (k : Nat) (D : Nat → Prop) (κi : Kw) (σ : Names) (κ : Kw) : Prop where
  w : κ.w = κi.w
  own : ∀ b, κ.own b = none ↔ κi.own b = none
  low : ∀ b, ¬ D b → ∀ m, κ.own b = some m → m = 0
  din : ∀ b, D b → κ.own b ≠ none
  pin : ∀ i, i < 8 → σ i = R.σ0 i
  le : R.κ0.le κ
  fr : ∀ b, R.fr b → κ.own b = R.κ0.own b ∧ κ.w.heap[b]? = R.κ0.w.heap[b]?
  frD : ∀ b, R.fr b → R.κ0.own b ≠ none → D b
  hr : HR R.fr σ κ (hpOf (R.hin k))
  ch : ∀ i c g, hpOf (R.hin k) i = some c → blk (σ i) = some g → D g ∧ g ≠ R.l ∧ R.dm ≠ some g
  ll : D R.l ∧ κ.own R.l = some 0 ∧ κ.w.heap[R.l]? = some (.loop (R.st k)) ∧ R.κ0.w.heap.size ≤ R.l
  dd : ∀ d, R.dm = some d → D d ∧ κ.own d = some 0 ∧ κ.w.heap[d]? = some (.deferred (some [])) ∧ R.κ0.w.heap.size ≤ d ∧ d ≠ R.l
theorem Lk.still {R : RG} {k : Nat} {D : Nat → Prop} {κi κi' : Kw} {σ : Names} {κ : Kw} (h : Lk R k D κi σ κ) (hle : κi.le κi') (hs : Still D κi κi') : ∃ κ', Lk R k D κi' σ κ' := by
  classical
  have hsz : κ.w.heap.size ≤ κi'.w.heap.size := by rw [h.w]; exact hle.size
  let own' : Nat → Option Nat := fun b => if D b then κ.own b else if κi'.own b = none then none else some 0
  have hlt : ∀ b m, own' b = some m → b < κi'.w.heap.size := fun b m hb => by
    simp only [own'] at hb
    split at hb
    · exact Nat.lt_of_lt_of_le (κ.lt b m hb) hsz
    · split at hb
      · cases hb
      · rename_i hn
        cases ho : κi'.own b with
        | none => exact absurd ho hn
        | some m' => exact κi'.lt b m' ho
  have dy : ∀ b, D b → own' b = κ.own b := fun b hb => by simp only [own', if_pos hb]
  have dn : ∀ b, ¬ D b → (own' b = none ↔ κi'.own b = none) := fun b hb => by
    simp only [own', if_neg hb]
    by_cases e : κi'.own b = none
    · simp [e]
    · simp [e]
  have hh : ∀ b, D b → κi'.w.heap[b]? = κ.w.heap[b]? := fun b hb => by rw [h.w]; exact (hs b hb).2
  have hn : ∀ b, b < κ.w.heap.size → κ.own b = none → own' b = none ∧ κi'.w.heap[b]? = κ.w.heap[b]? := fun b hb ho => by
    have hd : ¬ D b := fun hD => h.din b hD ho
    obtain ⟨h1, h2⟩ := hle.still b (by rw [← h.w]; exact hb) ((h.own b).1 ho)
    exact ⟨(dn b hd).2 h1, by rw [h2, h.w]⟩
  have hle' : κ.le ⟨κi'.w, own', hlt⟩ := ⟨by rw [h.w]; exact hle.os, by rw [h.w]; exact hle.tape, by rw [h.w]; exact hle.output, hsz, hn, fun b m hb => by
    by_cases hD : D b
    · refine ⟨fun m' hm' => ?_, fun j u _ hu => ?_⟩
      · have hm' : own' b = some m' := hm'
        rw [dy b hD, hb] at hm'; cases hm'; exact Nat.le_refl _
      · simp only [World.cell?] at hu ⊢
        rw [hh b hD]; exact hu
    · have := h.low b hD m hb
      subst this
      exact ⟨fun _ _ => Nat.zero_le _, fun j u hj _ => absurd hj (Nat.not_lt_zero _)⟩⟩
  have hfr : ∀ b, R.fr b → own' b = κ.own b ∧ κi'.w.heap[b]? = κ.w.heap[b]? := fun b hb => by
    by_cases hD : D b
    · exact ⟨dy b hD, hh b hD⟩
    · have h0 : R.κ0.own b = none := Classical.byContradiction fun e => hD (h.frD b hb e)
      have h1 : κ.own b = none := (h.fr b hb).1.trans h0
      have := hn b (Nat.lt_of_lt_of_le (R.frlt b hb) h.le.size) h1
      exact ⟨this.1.trans h1.symm, this.2⟩
  refine ⟨⟨κi'.w, own', hlt⟩, { w := rfl, own := fun b => ?_, low := fun b hD m hm => ?_, din := fun b hD e => h.din b hD ((dy b hD).symm.trans e), pin := h.pin, le := Kw.le_trans h.le hle', fr := fun b hb => ⟨(hfr b hb).1.trans (h.fr b hb).1, (hfr b hb).2.trans (h.fr b hb).2⟩, frD := h.frD, hr := ⟨fun i c hc => Chunk.keep hle' (fun g hg => ⟨hh g (h.ch i c g hc hg).1, dy g (h.ch i c g hc hg).1⟩) (h.hr.at_ i c hc), h.hr.far, h.hr.base⟩, ch := h.ch, ll := ?_, dd := fun d hd => ?_ }⟩
  · by_cases hD : D b
    · have h1 := h.din b hD
      have h2 : κi'.own b = κi.own b := (hs b hD).1
      have h3 : κi.own b ≠ none := fun e => h1 ((h.own b).2 e)
      constructor
      · intro e
        have e : own' b = none := e
        rw [dy b hD] at e; exact absurd e h1
      · intro e; rw [h2] at e; exact absurd e h3
    · exact dn b hD
  · have hm : own' b = some m := hm
    simp only [own', if_neg hD] at hm
    split at hm
    · cases hm
    · cases hm; rfl
  · obtain ⟨h1, h2, h3, h4⟩ := h.ll
    exact ⟨h1, (dy _ h1).trans h2, (hh _ h1).trans h3, h4⟩
  · obtain ⟨h1, h2, h3, h4, h5⟩ := h.dd d hd
    exact ⟨h1, (dy _ h1).trans h2, (hh _ h1).trans h3, h4, h5⟩
/-- a round's frame -/
def Fix.inl (N : Nat) (base : Nat → Prop) (σ0 : Names) (κ0 : Kw) (l : Nat) (r : Loop) : Fix :=
  ⟨N, base, σ0, κ0, some l, fun D κ => D l ∧ κ.w.heap[l]? = some (.loop r), fun _ _ _ _ => False, fun D κ κ' h _ hs => ⟨h.1, (hs l h.1).2.trans h.2⟩, fun _ _ _ _ _ h _ _ => h.elim, fun l' h D κ hk => by cases h; exact ⟨hk.1, r, hk.2⟩⟩
theorem Fix.inl_ok {P : Program} {N : Nat} {base : Nat → Prop} {σ0 : Names} {κ0 : Kw} {l : Nat} {r : Loop} : (Fix.inl N base σ0 κ0 l r).ok P := Fix.ok_plain fun _ _ _ _ h => h
/-- the record turns: nothing else does -/
theorem RK.swap {N : Nat} {base : Nat → Prop} {σ0 : Names} {κ0 : Kw} {l : Nat} {r r' : Loop} {used : Nat → Prop} {env : Env} {heap : Heap} {a : Act} {σ : Names} {κ : Kw} (h : RK (Fix.inl N base σ0 κ0 l r) used env heap a σ κ) :
    ∃ κ' : Kw, κ'.w = κ.w.putObj l (.loop r') ∧ κ'.own = κ.own ∧ κ.le κ' ∧ RK (Fix.inl N base σ0 κ0 l r') used env heap a σ κ' := by
  obtain ⟨D, ms, hp⟩ := h.prot
  obtain ⟨hk1, hk2⟩ := hp.k
  have hbl := hp.bd l hk1
  have hlt : ∀ b k, κ.own b = some k → b < (κ.w.putObj l (.loop r')).heap.size := fun b k hb => by simpa using κ.lt b k hb
  have hne : ∀ b, b ≠ l → (κ.w.putObj l (.loop r')).heap[b]? = κ.w.heap[b]? := fun b hb => World.putObj_heap_other hb
  have hle : κ.le ⟨κ.w.putObj l (.loop r'), κ.own, hlt⟩ := ⟨rfl, rfl, rfl, by simp, fun b _ hb => ⟨hb, hne b (fun e => by rw [e, hbl.2] at hb; cases hb)⟩, fun b k hb => ⟨fun k' hk' => by have hk' : κ.own b = some k' := hk'; rw [hb] at hk'; cases hk'; exact Nat.le_refl _, fun j u hj hu => by
    have hb' : b ≠ l := fun e => by rw [e, hbl.2] at hb; cases hb; exact absurd hj (Nat.not_lt_zero _)
    simp only [World.cell?] at hu ⊢
    rw [hne b hb']; exact hu⟩⟩
  have hch : ∀ i c g, heap i = some c → blk (σ i) = some g → g ≠ l := fun i c g hc hg e => (hp.far i c g hc hg).1 (e ▸ hk1)
  refine ⟨⟨κ.w.putObj l (.loop r'), κ.own, hlt⟩, rfl, rfl, hle, { tmps := h.tmps, base := fun b hb => by simpa using h.base b hb, pin := h.pin, env_ := fun t => (env t).mono hle (h.env_ t), hr := ⟨fun i c hc => Chunk.keep hle (fun g hg => ⟨hne g (hch i c g hc hg), rfl⟩) (h.hr.at_ i c hc), h.hr.far, h.hr.base⟩, le0 := Kw.le_trans h.le0 hle, old := fun b hb => ⟨(h.old b hb).1, (hne b (fun e => hp.nb l hk1 (e ▸ hb))).trans (h.old b hb).2⟩, sup := h.sup, hsup := h.hsup, prot := ⟨D, ms, ?_⟩ }⟩
  exact ⟨fun b hb => ⟨by simpa using (hp.bd b hb).1, (hp.bd b hb).2⟩, hp.nb, hp.far, ⟨hk1, World.putObj_heap_same hbl.1⟩, fun I k e => (hp.j I k e).elim, hp.ds, hp.nodup, fun m hm => by
    obtain ⟨h1, h2, h3, h4, h5⟩ := hp.marks m hm
    exact ⟨h1, h2, h3, h4, (hne m (fun e => h1 (e ▸ hk1))).trans h5⟩⟩
/-- what the rounds leave -/
def RoundOut (st : St) (hout : List (Nat × Chunk)) : Prop := ∃ θ : List (Nat × Nat), HpLe (thf θ) st.heap hout ∧ injB (thf θ) hout = true ∧ θ.all (fun x => Nat.ble 8 x.1) = true
def jumpOf : Exit → Option Code
  | .ret => some .ret
  | .exit id => some (.exit id)
  | .goto l => some (.goto l)
  | _ => none
def RoundQ (go : Bool) (jc : Code) (hout : List (Nat × Chunk)) : Exit → St → Prop
  | .normal, st => go = true ∧ RoundOut st hout
  | .panic _, _ => False
  | .outgrown, _ => False
  | e, st => go = false ∧ jumpOf e = some jc ∧ RoundOut st hout
theorem roundQ_n {go : Bool} {jc : Code} {hout : List (Nat × Chunk)} {st : St} (θ : List (Nat × Nat)) (hg : go = true) (h1 : HpLe (thf θ) st.heap hout) (h2 : injB (thf θ) hout = true) (h3 : θ.all (fun x => Nat.ble 8 x.1) = true) : RoundQ go jc hout .normal st := ⟨hg, θ, h1, h2, h3⟩
theorem roundQ_r {go : Bool} {hout : List (Nat × Chunk)} {st : St} (θ : List (Nat × Nat)) (hg : go = false) (h1 : HpLe (thf θ) st.heap hout) (h2 : injB (thf θ) hout = true) (h3 : θ.all (fun x => Nat.ble 8 x.1) = true) : RoundQ go .ret hout .ret st := ⟨hg, rfl, θ, h1, h2, h3⟩
theorem roundQ_x {go : Bool} {hout : List (Nat × Chunk)} {st : St} {id : Nat} (θ : List (Nat × Nat)) (hg : go = false) (h1 : HpLe (thf θ) st.heap hout) (h2 : injB (thf θ) hout = true) (h3 : θ.all (fun x => Nat.ble 8 x.1) = true) : RoundQ go (.exit id) hout (.exit id) st := ⟨hg, rfl, θ, h1, h2, h3⟩
def foldE (env : Env) (ps : List Tmp) (As : List AV) : Env := (ps.zip As).foldl (fun e x => upd e x.1 x.2) env
theorem fold_env {σ : Names} {κ : Kw} : ∀ (ps : List Tmp) (As : List AV) (us : List Value) (env : Env) (tm : Array Value), All2 σ κ As us → (∀ p ∈ ps, p < tm.size) → (∀ t, (env t).p σ κ (tm.getD t undef)) →
    (∀ t, (foldE env ps As t).p σ κ (((ps.zip us).foldl (fun tm x => tm.setIfInBounds x.1 x.2) tm).getD t undef)) ∧ ((ps.zip us).foldl (fun tm x => tm.setIfInBounds x.1 x.2) tm).size = tm.size
  | [], _, _, env, tm, _, _, h => by simp only [foldE, List.zip_nil_left, List.foldl_nil]; exact ⟨h, trivial⟩
  | p :: ps, [], [], env, tm, _, _, h => by simp only [foldE, List.zip_nil_right, List.foldl_nil]; exact ⟨h, trivial⟩
  | p :: ps, A :: As, u :: us, env, tm, ⟨hA, hall⟩, hp, h => by
    obtain ⟨h1, h2⟩ := fold_env ps As us (upd env p A) (tm.setIfInBounds p u) hall (fun q hq => by simpa using hp q (by simp [hq])) (fun t => by
      have hpl := hp p (by simp)
      rw [Array.getD_eq_getD_getElem?, Array.getElem?_setIfInBounds]
      by_cases e : p = t
      · subst e; rw [upd_same, if_pos rfl, if_pos hpl]; exact hA
      · rw [upd_other _ _ _ _ (fun x => e x.symm), if_neg e, ← Array.getD_eq_getD_getElem?]; exact h t)
    exact ⟨h1, by rw [List.zip_cons_cons, List.foldl_cons, h2]; simp⟩
theorem foldE_sup {q : Nat → Prop} : ∀ (ps : List Tmp) (As : List AV) (env : Env), (∀ t, ∀ s ∈ (env t).sup, q s) → (∀ A ∈ As, ∀ s ∈ A.sup, q s) → ∀ t, ∀ s ∈ (foldE env ps As t).sup, q s
  | [], _, _, h, _ => by simpa only [foldE, List.zip_nil_left, List.foldl_nil] using h
  | _ :: _, [], _, h, _ => by simpa only [foldE, List.zip_nil_right, List.foldl_nil] using h
  | p :: ps, A :: As, env, h, hA => foldE_sup ps As (upd env p A) (fun t s hs => by
      by_cases e : t = p
      · subst e; rw [upd_same] at hs; exact hA A (by simp) s hs
      · rw [upd_other _ _ _ _ e] at hs; exact h t s hs) (fun B hB => hA B (by simp [hB]))
/-- values that mean the same to both -/
def ValsOk (As : List AV) : Prop := As.flatMap AV.sup = [] ∧ ∀ σ σ' (κ κ' : Kw) us, κ'.w = κ.w → (∀ b, κ'.own b = none ↔ κ.own b = none) → All2 σ κ As us → All2 σ' κ' As us
theorem valsOk_is (vs : List Value) : ValsOk (vs.map Is) := ⟨by induction vs with
  | nil => rfl
  | cons v vs ih => rw [List.map_cons, List.flatMap_cons, ih]; rfl, fun σ σ' κ κ' us _ _ h => by
  have := all2_known h
  subst this
  induction us with
  | nil => trivial
  | cons v us ih => exact ⟨rfl, ih h.2⟩⟩
theorem all_range {go : Nat → Bool} {k : Nat} : (List.range k).all go = true ↔ ∀ j, j < k → go j = true := by
  rw [List.all_eq_true]
  exact ⟨fun h j hj => h j (List.mem_range.2 hj), fun h j hj => h j (List.mem_range.1 hj)⟩
/-- ONE ROUND -/
theorem Lk.round {P : Program} {N : Nat} {R : RG} {a : Act} {f0 : FuncId} {ps : Array Tmp} {assign body : Code} {dv : Nat} {n : Nat} {vals : Nat → List AV} {fx : List (Nat × AV)}
    (hrc : ∀ s p, R.rc s p = { state := s, pending := p, fn := f0, tmps := a.tmps, params := ps, assign, body, defers := dv }) (hN : a.tmps.size = N) (hps : ∀ p ∈ ps.toList, p < N) (hpn : ∀ k, (vals k).length = ps.size) (hvals : ∀ k, ValsOk (vals k))
    (hfx : fx.all (fun x => x.2.sup.all (fun s => Nat.blt s 8)) = true) (hhin : ∀ k, (R.hin k).all (fun x => Nat.blt 0 x.1 && Nat.blt x.1 16 && x.2.sup.all (fun s => Nat.blt s 16)) = true) (henv : ∀ t, (envOf fx t).p R.σ0 R.κ0 (a.tmps.getD t undef))
    (hbody : ∀ k, k < n → (∀ j, j < k → R.go j = true) → W P N assign ⟨foldE (envOf fx) ps.toList (vals k), hpOf (R.hin k), 2⟩ (fun e st1 => e = .normal ∧ W P N body st1 (RoundQ (R.go k) R.jc (R.hin (k + 1))))) (σx : Names) :
    Yields P R.l n vals R.go σx (fun k D κ => ∃ σ κ', Lk R k D κ σ κ') := by
  intro k D κi hbd ⟨σ, κ, h⟩ hk hgo us hus m
  have hst : R.st k = R.rc .ready none := by rw [RG.st, if_pos (all_range.2 hgo)]
  obtain ⟨l1, l2, l3, l4⟩ := h.ll
  rw [hst, hrc] at l3
  have hlen := hus.length
  have l3' : κi.w.heap[R.l]? = some (.loop { state := .ready, pending := none, fn := f0, tmps := a.tmps, params := ps, assign, body, defers := dv }) := by rw [← h.w]; exact l3
  have hyl := run_yield (P := P) (args := us.toArray) l3' (by rw [← hpn k, ← hlen]; simp)
  refine ⟨f0, _, assign, body, hyl, roundIn_of_wpIn trivial ?_⟩
  have hus2 : All2 σ κ (vals k) us := (hvals k).2 _ _ _ _ _ h.w h.own hus
  have hsup8 : ∀ t, ∀ s ∈ (envOf fx t).sup, s < 8 := fun t s hs => by
    obtain ⟨x, hx, hs⟩ := envOf_sup hs
    have := List.all_eq_true.1 (List.all_eq_true.1 hfx x hx) s hs
    simpa [Nat.blt_eq] using this
  have henvk : ∀ t, (envOf fx t).p σ κ (a.tmps.getD t undef) := fun t => (envOf fx t).mono h.le ((envOf fx t).loc (fun i hi => h.pin i (hsup8 t i hi)) (henv t))
  obtain ⟨e1, e2⟩ := fold_env ps.toList (vals k) us (envOf fx) a.tmps hus2 (fun p hp => by rw [hN]; exact hps p hp) henvk
  have hz : (ps.zip us.toArray).foldl (fun tmps (x : Tmp × Value) => tmps.setIfInBounds x.1 x.2) a.tmps = (ps.toList.zip us).foldl (fun tm x => tm.setIfInBounds x.1 x.2) a.tmps := by
    rw [← Array.foldl_toList]; simp
  let base : Nat → Prop := fun b => b < κ.w.heap.size ∧ (∀ i c, hpOf (R.hin k) i = some c → blk (σ i) ≠ some b) ∧ b ≠ R.l
  have hlsz : R.l < κ.w.heap.size := κ.lt _ _ l2
  have hin8 : ∀ i c, hpOf (R.hin k) i = some c → 0 < i ∧ i < 16 ∧ ∀ s ∈ c.sup, s < 16 := fun i c hc => by
    have := List.all_eq_true.1 (hhin k) (i, c) (hpOf_mem hc)
    simp only [Bool.and_eq_true, Nat.blt_eq] at this
    exact ⟨this.1.1, this.1.2, fun s hs => by simpa [Nat.blt_eq] using List.all_eq_true.1 this.2 s hs⟩
  have hi0 : idxOf (hpOf (R.hin k)) = none := by
    cases h0 : hpOf (R.hin k) 0 with
    | none => simp [idxOf, h0]
    | some c => exact absurd (hin8 0 c h0).1 (by decide)
  have hRS : RS (Fix.inl N base σ κ R.l { state := .ready, pending := none, fn := f0, tmps := a.tmps, params := ps, assign, body, defers := dv }) ⟨foldE (envOf fx) ps.toList (vals k), hpOf (R.hin k), 2⟩ { tmps := (ps.toList.zip us).foldl (fun tm x => tm.setIfInBounds x.1 x.2) a.tmps, defers := [] } κ.w := by
    refine ⟨Nat.le_succ 1, σ, κ, rfl, { tmps := e2.trans hN, base := fun b hb => hb.1, pin := fun _ _ => rfl, env_ := e1, hr := ⟨h.hr.at_, h.hr.far, fun i c g hc hg hb => hb.2.1 i c hc hg⟩, le0 := Kw.le_refl κ, old := fun _ _ => ⟨rfl, rfl⟩, sup := fun t s hs => ?_, hsup := fun i c hc => ?_, prot := ⟨fun b => b = R.l, [], ?_⟩ }⟩
    · have : s < 8 := foldE_sup ps.toList (vals k) (envOf fx) hsup8 (fun A hA s hs => by
        have := sup_mem hA hs
        rw [(hvals k).1] at this; cases this) t s hs
      show s / 8 < 2; omega
    · obtain ⟨_, h1, h2⟩ := hin8 i c hc
      exact ⟨by show i / 8 < 2; omega, fun s hs => by have := h2 s hs; show s / 8 < 2; omega⟩
    · exact ⟨fun b hb => by subst hb; exact ⟨hlsz, l2⟩, fun b hb hbb => hbb.2.2 hb, fun i c g hc hg => ⟨(h.ch i c g hc hg).2.1, by simp⟩, ⟨rfl, l3⟩, fun I k e => (by rw [hi0] at e; cases e), rfl, List.nodup_nil, fun r hr => (by cases hr)⟩
  have hw := hbody k hk hgo _ m _ _ Fix.inl_ok rfl hRS
  have hwk : κ.w = κi.w := h.w
  rw [show (ps.zip us.toArray).foldl (fun tmps (t, a) => tmps.setIfInBounds t a) a.tmps = (ps.toList.zip us).foldl (fun tm x => tm.setIfInBounds x.1 x.2) a.tmps from hz, ← hwk]
  refine wpIn_mono hw ?_
  rintro e a1 w1 ⟨st1, ⟨rfl, hb1⟩, hc1, σ1, κ1, hw1, hR1⟩
  obtain ⟨D1, ms1, hp1⟩ := hR1.prot
  have hl1 : w1.heap[R.l]? = some (.loop { state := .ready, pending := none, fn := f0, tmps := a.tmps, params := ps, assign, body, defers := dv }) := by rw [← hw1]; exact hp1.k.2
  obtain ⟨κ2, k1, k2, k3, hR2⟩ := hR1.swap (r' := { state := .busy, pending := none, fn := f0, tmps := a.tmps, params := ps, assign, body, defers := dv })
  refine ⟨_, run_beginRound hl1 rfl, ?_⟩
  rw [← hw1, ← k1]
  refine wpIn_mono (hb1 _ m a1 κ2.w Fix.inl_ok rfl ⟨hc1, σ1, κ2, rfl, hR2⟩) ?_
  rintro e a' w' ⟨st', hq, _, σ', κ', rfl, hR'⟩
  obtain ⟨D', ms', hp'⟩ := hR'.prot
  have hl' := hp'.k
  have fin : ∀ (jump : Option Code), RoundOut st' (R.hin (k + 1)) → R.st (k + 1) = { state := if jump.isNone then .ready else .done, pending := jump, fn := f0, tmps := a.tmps, params := ps, assign, body, defers := dv } → R.go k = jump.isNone →
      ∃ v w'', (Instr.endRound R.l jump).run P κ'.w = .ok v w'' ∧ ∃ κi' D'', Ending.returned v = .returned (.bool (R.go k)) ∧ κi'.w = w'' ∧ κi.le κi' ∧ Bd D'' κi' ∧ (∀ b, b < κ.w.heap.size → ¬ D b → ¬ D'' b ∧ κi'.own b = κi.own b ∧ κi'.w.heap[b]? = κ.w.heap[b]?) ∧ ∃ σ'' κ'', Lk R (k + 1) D'' κi' σ'' κ'' := fun jump ⟨θ, hhp, hinj, hlow⟩ hstk hgk => by
    classical
    refine ⟨_, _, run_endRound jump hl'.2, ?_⟩
    obtain ⟨κx, x1, x2, x3, hX⟩ := hR'.swap (r' := { state := if jump.isNone then .ready else .done, pending := jump, fn := f0, tmps := a.tmps, params := ps, assign, body, defers := dv })
    obtain ⟨Dx, mx, hpx⟩ := hX.prot
    have hxl := hpx.k
    have hbase : ∀ b, base b → κx.own b = κ.own b ∧ κx.w.heap[b]? = κ.w.heap[b]? := fun b hb => hX.old b hb
    have hndb : ∀ b, b < κ.w.heap.size → ¬ D b → base b := fun b hb hD => ⟨hb, fun i c hc hg => hD (h.ch i c b hc hg).1, fun e => hD (e ▸ l1)⟩
    have hfrb : ∀ b, R.fr b → base b := fun b hb => ⟨Nat.lt_of_lt_of_le (R.frlt b hb) h.le.size, fun i c hc hg => h.hr.base i c b hc hg hb, fun e => by have := R.frlt b hb; omega⟩
    let own' : Nat → Option Nat := fun b => if D b ∨ κ.w.heap.size ≤ b then (if κx.own b = none then none else some 0) else κi.own b
    have hlt : ∀ b j, own' b = some j → b < κx.w.heap.size := fun b j hb => by
      simp only [own'] at hb
      split at hb
      · split at hb
        · cases hb
        · rename_i hn
          cases ho : κx.own b with
          | none => exact absurd ho hn
          | some j' => exact κx.lt b j' ho
      · exact Nat.lt_of_lt_of_le (κi.lt b j hb) (by rw [← hwk]; exact hX.le0.size)
    let D2 : Nat → Prop := fun b => (D b ∨ κ.w.heap.size ≤ b) ∧ κx.own b ≠ none
    have oy : ∀ b, D b ∨ κ.w.heap.size ≤ b → own' b = if κx.own b = none then none else some 0 := fun b hb => by simp only [own', if_pos hb]
    have on : ∀ b, ¬ (D b ∨ κ.w.heap.size ≤ b) → own' b = κi.own b := fun b hb => by simp only [own', if_neg hb]
    have hnot : ∀ b, b < κ.w.heap.size → ¬ D b → ¬ (D b ∨ κ.w.heap.size ≤ b) := fun b h1 h2 h3 => h3.elim h2 (fun h4 => by omega)
    have hdsz : ∀ b, ¬ (D b ∨ κ.w.heap.size ≤ b) → base b := fun b hb => hndb b (by omega) (fun hD => hb (.inl hD))
    have hle' : κi.le ⟨κx.w, own', hlt⟩ := by
      refine ⟨by rw [← hwk]; exact hX.le0.os, by rw [← hwk]; exact hX.le0.tape, by rw [← hwk]; exact hX.le0.output, by rw [← hwk]; exact hX.le0.size, fun b hb ho => ?_, fun b j hj => ?_⟩
      · have hD : ¬ D b := fun hD => h.din b hD ((h.own b).2 ho)
        have hb' : b < κ.w.heap.size := by rw [hwk]; exact hb
        refine ⟨(on b (hnot b hb' hD)).trans ho, ?_⟩
        rw [← hwk]; exact (hbase b (hndb b hb' hD)).2
      · by_cases hD : D b
        · have := (hbd b hD).2
          rw [hj] at this; cases this
          exact ⟨fun _ _ => Nat.zero_le _, fun j u hj _ => absurd hj (Nat.not_lt_zero _)⟩
        · have hb' : b < κ.w.heap.size := by rw [hwk]; exact κi.lt b j hj
          refine ⟨fun j' hj' => ?_, fun i u hi hu => ?_⟩
          · have hj' : own' b = some j' := hj'
            rw [on b (hnot b hb' hD), hj] at hj'; cases hj'; exact Nat.le_refl _
          · simp only [World.cell?] at hu ⊢
            rw [(hbase b (hndb b hb' hD)).2, hwk]; exact hu
    refine ⟨⟨κx.w, own', hlt⟩, D2, by rw [hgk], x1, hle', fun b hb => ?_, fun b hb hD => ?_, fun i => σ' (thf θ i), κx, ?_⟩
    · obtain ⟨h1, h2⟩ := hb
      have ho : own' b = some 0 := by rw [oy b h1, if_neg h2]
      exact ⟨hlt b 0 ho, ho⟩
    · exact ⟨fun h2 => hnot b hb hD h2.1, on b (hnot b hb hD), (hbase b (hndb b hb hD)).2⟩
    · have hgd : ∀ i d g, hpOf (R.hin (k + 1)) i = some d → blk (σ' (thf θ i)) = some g → ∃ c, st'.heap (thf θ i) = some c ∧ D2 g ∧ ¬ base g ∧ g ≠ R.l := fun i d g hd hg => by
        obtain ⟨c, hc, hlq⟩ := hhp.at_ i d hd
        have hnb := hX.hr.base _ c g hc hg
        obtain ⟨j, hj⟩ := Chunk.own (hX.hr.at_ _ c hc) hg
        refine ⟨c, hc, ⟨?_, by rw [hj]; simp⟩, hnb, fun e => (hpx.far _ c g hc hg).1 (e ▸ hxl.1)⟩
        by_cases hs : κ.w.heap.size ≤ g
        · exact .inr hs
        · exact .inl (Classical.byContradiction fun hD => hnb (hndb g (by omega) hD))
      exact { w := rfl
              own := fun b => by
                by_cases hb : D b ∨ κ.w.heap.size ≤ b
                · show _ ↔ own' b = none
                  rw [oy b hb]
                  by_cases e : κx.own b = none
                  · simp [e]
                  · simp [e]
                · show _ ↔ own' b = none
                  rw [on b hb, (hbase b (hdsz b hb)).1]
                  exact h.own b
              low := fun b hD2 j hj => by
                by_cases hb : D b ∨ κ.w.heap.size ≤ b
                · exact absurd ⟨hb, by rw [hj]; simp⟩ hD2
                · rw [(hbase b (hdsz b hb)).1] at hj
                  exact h.low b (fun hD => hb (.inl hD)) j hj
              din := fun b hb => hb.2
              pin := fun i hi => by
                show σ' (thf θ i) = _
                rw [thf_low θ hlow i hi, hX.pin i hi]
                exact h.pin i hi
              le := Kw.le_trans h.le hX.le0
              fr := fun b hb => ⟨(hbase b (hfrb b hb)).1.trans (h.fr b hb).1, (hbase b (hfrb b hb)).2.trans (h.fr b hb).2⟩
              frD := fun b hb ho => ⟨.inl (h.frD b hb ho), by rw [(hbase b (hfrb b hb)).1, (h.fr b hb).1]; exact ho⟩
              hr := ⟨fun i d hd => by
                  obtain ⟨c, hc, hlq⟩ := hhp.at_ i d hd
                  exact hlq.at_ (hX.hr.at_ (thf θ i) c hc), fun i j g hij hi hj hg => by
                  cases hdi : hpOf (R.hin (k + 1)) i with
                  | none => exact absurd hdi hi
                  | some d =>
                    cases hdj : hpOf (R.hin (k + 1)) j with
                    | none => exact absurd hdj hj
                    | some d' =>
                      obtain ⟨c, hc, _⟩ := hhp.at_ i d hdi
                      obtain ⟨c', hc', _⟩ := hhp.at_ j d' hdj
                      exact hX.hr.far (thf θ i) (thf θ j) g (injB.spec hinj (i, d) (hpOf_mem hdi) (j, d') (hpOf_mem hdj) hij) (by rw [hc]; simp) (by rw [hc']; simp) hg, fun i d g hd hg hfr => by
                  obtain ⟨_, _, _, h3, _⟩ := hgd i d g hd hg
                  exact h3 (hfrb g hfr)⟩
              ch := fun i d g hd hg => by
                obtain ⟨_, _, h2, h3, h4⟩ := hgd i d g hd hg
                refine ⟨h2, h4, fun e => h3 ?_⟩
                obtain ⟨d1, d2, _, d4, d5⟩ := h.dd g e
                exact ⟨κ.lt _ _ d2, fun i c hc hg' => (h.ch i c g hc hg').2.2 e, d5⟩
              ll := ⟨⟨.inl l1, by rw [(hpx.bd _ hxl.1).2]; simp⟩, (hpx.bd _ hxl.1).2, by rw [hstk]; exact hxl.2, l4⟩
              dd := fun d e => by
                obtain ⟨d1, d2, d3, d4, d5⟩ := h.dd d e
                have hb : base d := ⟨κ.lt _ _ d2, fun i c hc hg' => (h.ch i c d hc hg').2.2 e, d5⟩
                obtain ⟨b1, b2⟩ := hbase d hb
                exact ⟨⟨.inl d1, by rw [b1, d2]; simp⟩, b1.trans d2, b2.trans d3, d4, d5⟩ }
  have hstn : R.go k = true → R.st (k + 1) = R.rc .ready none := fun hg => by
    rw [RG.st, if_pos (all_range.2 fun j hj => by
      by_cases e : j = k
      · subst e; exact hg
      · exact hgo j (by omega))]
  have hstx : R.go k = false → R.st (k + 1) = R.rc .done (some R.jc) := fun hg => by
    rw [RG.st, if_neg (fun h => by
      have := all_range.1 h k (by omega)
      rw [hg] at this; cases this)]
  cases e with
  | normal =>
    obtain ⟨hg, ho⟩ := hq
    exact fin none ho (by rw [hstn hg, hrc]; rfl) (by rw [hg]; rfl)
  | ret =>
    obtain ⟨hg, hj, ho⟩ := hq
    simp only [jumpOf, Option.some.injEq] at hj
    exact fin (some .ret) ho (by rw [hstx hg, hrc, hj]; rfl) (by rw [hg]; rfl)
  | exit id =>
    obtain ⟨hg, hj, ho⟩ := hq
    simp only [jumpOf, Option.some.injEq] at hj
    exact fin (some (.exit id)) ho (by rw [hstx hg, hrc, hj]; rfl) (by rw [hg]; rfl)
  | goto t =>
    obtain ⟨hg, hj, ho⟩ := hq
    simp only [jumpOf, Option.some.injEq] at hj
    exact fin (some (.goto t)) ho (by rw [hstx hg, hrc, hj]; rfl) (by rw [hg]; rfl)
  | panic _ => exact hq.elim
  | outgrown => exact hq.elim
end Ab
end Go.Proofs.Ytmilegikgbmjpaa
