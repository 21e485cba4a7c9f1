/-
  RANGES OVER FUNCTIONS: what a function that is ranged over tells, and whoever ranges over it.
-/
import Derived.Test.YtmilegikgbmjpaaAbt
import Derived.RangeFuncNested
namespace Go.Proofs.Ytmilegikgbmjpaa
open Go.RowKit
namespace Ab
/-- how many rounds there are, of at most so many -/
def stopF (go : Nat → Bool) : Nat → Nat → Nat
  | 0, k => k
  | m + 1, k => if go k = true then stopF go m (k + 1) else k + 1
def stopN (go : Nat → Bool) (n : Nat) : Nat := stopF go n 0
theorem stopF_all {go : Nat → Bool} : ∀ m k, (∀ j, j < k + m → go j = true) → stopF go m k = k + m
  | 0, k, _ => rfl
  | m + 1, k, h => by
    rw [stopF, if_pos (h k (by omega)), stopF_all m (k + 1) (fun j hj => h j (by omega))]; omega
theorem stop_all {go : Nat → Bool} {n : Nat} (h : ∀ j, j < n → go j = true) : stopN go n = n := by
  rw [stopN, stopF_all n 0 (fun j hj => h j (by omega))]; omega
theorem stopF_at {go : Nat → Bool} {i : Nat} (hg : go i = false) : ∀ m k, k ≤ i → i < k + m → (∀ j, j < i → go j = true) → stopF go m k = i + 1
  | 0, k, h1, h2, _ => by omega
  | m + 1, k, h1, h2, h => by
    rw [stopF]
    by_cases e : k = i
    · subst e; rw [if_neg (by rw [hg]; decide)]
    · rw [if_pos (h k (by omega)), stopF_at hg m (k + 1) (by omega) (by omega) h]
theorem stop_at {go : Nat → Bool} {n i : Nat} (hi : i < n) (h : ∀ j, j < i → go j = true) (hg : go i = false) : stopN go n = i + 1 := stopF_at hg n 0 (by omega) (by omega) h
theorem stop_cases (go : Nat → Bool) (n : Nat) : (stopN go n = n ∧ ∀ j, j < n → go j = true) ∨ ∃ i, i < n ∧ (∀ j, j < i → go j = true) ∧ go i = false ∧ stopN go n = i + 1 := by
  classical
  by_cases h : ∀ j, j < n → go j = true
  · exact .inl ⟨stop_all h, h⟩
  · right
    obtain ⟨i, hi, hl⟩ := least (fun j => j < n ∧ go j = false) (by
      apply Classical.byContradiction
      intro hn
      exact h fun j hj => by
        cases hg : go j with
        | true => rfl
        | false => exact absurd ⟨j, hj, hg⟩ hn)
    have h2 : ∀ j, j < i → go j = true := fun j hj => by
      cases hg : go j with
      | true => rfl
      | false => have := hl j ⟨by omega, hg⟩; omega
    exact ⟨i, hi.1, h2, hi.2, stop_at hi.1 h2 hi.2⟩
/-- yield, and what it is to come to -/
def Yields (P : Program) (l n : Nat) (vals : Nat → List AV) (go : Nat → Bool) (σ : Names) (J : Nat → (Nat → Prop) → Kw → Prop) : Prop :=
  ∀ k D κ, Bd D κ → J k D κ → k < n → (∀ j, j < k → go j = true) → ∀ us : List Value, All2 σ κ (vals k) us → ∀ m, YieldAt Fence.wide m P l us.toArray κ.w fun e w' =>
    ∃ κ' D', e = .returned (.bool (go k)) ∧ κ'.w = w' ∧ κ.le κ' ∧ Bd D' κ' ∧ (∀ b, b < κ.w.heap.size → ¬ D b → ¬ D' b ∧ κ'.own b = κ.own b ∧ κ'.w.heap[b]? = κ.w.heap[b]?) ∧ J (k + 1) D' κ'
/-- a function that is ranged over: n rounds at most, of such values -/
structure FIter (P : Program) (f : FuncId) (caps : List AV) (n : Nat) (vals : Nat → List AV) : Prop where
  ent : ∀ (args : Array Value) (w : World), (callFunc f args).run P w = .ok (.enter f args) w
  calls : ∀ (l : Nat) (go : Nat → Bool) (J : Nat → (Nat → Prop) → Kw → Prop) (D : Nat → Prop) (σ : Names) (κ : Kw) (vs : List Value), All2 σ κ caps vs →
    (∀ k D κ κ', J k D κ → κ.le κ' → Still D κ κ' → J k D κ') → (∀ σ, Yields P l n vals go σ J) → Bd D κ → J 0 D κ →
    Calls P f (Value.func (.yield l) #[] #[] :: vs).toArray κ.w fun e w' => ∃ v κ' D', e = .returned v ∧ κ'.w = w' ∧ κ.le κ' ∧ Bd D' κ' ∧ J (stopN go n) D' κ'
def FinIQ (P : Program) (fn : Func) (I : ItC) : Exit → St → Prop
  | .normal, st | .ret, st => ResOk P fn st (Is (.tuple #[])) ∧ ∃ k, st.heap 0 = some (.idx I k) ∧ k = stopN I.go I.n
  | _, _ => False
theorem finIQ_r {P : Program} {fn : Func} {I : ItC} {st : St} {k : Nat} (h : ResOk P fn st (Is (.tuple #[]))) (h0 : st.heap 0 = some (.idx I k)) (hk : k = stopN I.go I.n) : FinIQ P fn I .ret st := ⟨h, k, h0, hk⟩
theorem finIQ_n {P : Program} {fn : Func} {I : ItC} {st : St} {k : Nat} (h : ResOk P fn st (Is (.tuple #[]))) (h0 : st.heap 0 = some (.idx I k)) (hk : k = stopN I.go I.n) : FinIQ P fn I .normal st := ⟨h, k, h0, hk⟩
theorem FIter.of {P : Program} {f : FuncId} {fn : Func} {c : Code} {caps : List AV} {n : Nat} {vals : Nat → List AV} {N : Nat} (hf : P.funcs[f]? = some fn) (hN : fn.ntmps = N) (hb : fn.body = some c) (hname : (fn.name == "runtime.NumGoroutine") = false) (hn : Nat.ble (caps.length + 1) N = true) (hcs : caps.flatMap AV.sup = [])
    (_hvs : ∀ k, (vals k).flatMap AV.sup = [])
    (h0 : ∀ l go, W P N c ⟨argE 0 (Is (.func (.yield l) #[] #[]) :: caps), hpOf [(0, .idx ⟨l, n, vals, go⟩ 0)], 1⟩ (FinIQ P fn ⟨l, n, vals, go⟩)) : FIter P f caps n vals where
  ent := fun as w => run_callFunc hf hname (by rw [hb]; rfl) as w
  calls := fun l go J D σ κ vs hvs' hst hY hbd hJ => by
    have hlen := hvs'.length
    subst hN
    have hn' : caps.length + 1 ≤ fn.ntmps := Nat.le_of_ble_eq_true hn
    refine callsIn_wide.1 (callsIn_of_wp_marks (F := Fence.wide) (n := 0) hf hb trivial ?_)
    let X : Fix := ⟨fn.ntmps, fun _ => False, fun _ => undef, κ, none, fun _ _ => True, fun I k D κ => I = ⟨l, n, vals, go⟩ ∧ J k D κ, fun _ _ _ _ _ _ => trivial, fun _ _ _ _ _ h hle hs => ⟨h.1, hst _ _ _ _ h.2 hle hs⟩, fun _ h => by cases h⟩
    have hok : X.ok P := fun I k D κ h1 _ h3 h4 h5 us hus m => by
      obtain ⟨rfl, h3⟩ := h3
      obtain ⟨fn', tm, as', bd', hy, hr⟩ := hY X.σ0 k D κ h1 h3 h4 h5 us hus m
      exact ⟨fn', tm, as', bd', hy, hr.mono fun e w' ⟨κ', D', e1, e2, e3, e4, e5, e6⟩ => ⟨κ', D', e1, e2, e3, e4, e5, trivial, rfl, e6⟩⟩
    have hall : All2 (fun _ => undef) κ (Is (.func (.yield l) #[] #[]) :: caps) (Value.func (.yield l) #[] #[] :: vs) := ⟨rfl, hvs'.loc fun A hA i hi => by
      have := sup_mem hA hi
      rw [hcs] at this; cases this⟩
    have h1 : RS X ⟨argE 0 (Is (.func (.yield l) #[] #[]) :: caps), hpOf [(0, .idx ⟨l, n, vals, go⟩ 0)], 1⟩ { tmps := (Value.func (.yield l) #[] #[] :: vs).toArray ++ Array.replicate (fn.ntmps - (Value.func (.yield l) #[] #[] :: vs).toArray.size) undef, defers := [] } κ.w := by
      refine ⟨Nat.le_refl _, fun _ => undef, κ, rfl, { tmps := by simp [X]; omega, base := fun b hb => hb.elim, pin := fun _ _ => rfl, env_ := fun t => ?_, hr := ⟨fun i c hc => ?_, fun i j g hij hi hj => ?_, fun _ _ _ _ _ hb => hb.elim⟩, le0 := Kw.le_refl κ, old := fun b hb => hb.elim, sup := fun t s hs => ?_, hsup := fun i c hc => ?_, prot := ⟨D, [], hbd, fun _ _ h => h, fun i c g _ hg => (by cases hg), trivial, fun I k e => ?_, rfl, List.nodup_nil, fun r hr => (by cases hr)⟩ }⟩
      · rcases argE_at (Is (.func (.yield l) #[] #[]) :: caps) 0 t with h1 | ⟨i, B, h1, h2, h3⟩
        · show (argE 0 _ t).p _ _ _
          rw [h1]; trivial
        · show (argE 0 _ t).p _ _ _
          rw [h3]
          obtain ⟨v, hv, hB⟩ := all2_get hall h2
          have : ((Value.func (.yield l) #[] #[] :: vs).toArray ++ Array.replicate (fn.ntmps - (Value.func (.yield l) #[] #[] :: vs).toArray.size) undef).getD t undef = v := by
            have hi : i < (Value.func (.yield l) #[] #[] :: vs).length := (List.getElem?_eq_some_iff.1 hv).1
            have ht : t = i := by omega
            subst ht
            rw [Array.getD_eq_getD_getElem?, Array.getElem?_append_left (by simpa using hi)]
            have : (Value.func (.yield l) #[] #[] :: vs).toArray[t]? = some v := by simpa using hv
            rw [this]; rfl
          rw [this]; exact hB
      · by_cases e : i = 0
        · subst e
          simp only [hpOf, upd_same, Option.some.injEq] at hc
          subst hc; rfl
        · simp [hpOf, upd_other _ _ _ _ e] at hc
      · have key : ∀ i, hpOf [(0, Chunk.idx ⟨l, n, vals, go⟩ 0)] i ≠ none → i = 0 := fun i hi => Classical.byContradiction fun e => hi (by simp [hpOf, upd_other _ _ _ _ e])
        exact absurd ((key i hi).trans (key j hj).symm) hij
      · rcases argE_at (Is (.func (.yield l) #[] #[]) :: caps) 0 t with h1 | ⟨i, B, h1, h2, h3⟩
        · have hs' : s ∈ (argE 0 (Is (.func (.yield l) #[] #[]) :: caps) t).sup := hs
          rw [h1] at hs'; cases hs'
        · have hs' : s ∈ (argE 0 (Is (.func (.yield l) #[] #[]) :: caps) t).sup := hs
          rw [h3] at hs'
          have := sup_mem (List.mem_of_getElem? h2) hs'
          rw [List.flatMap_cons, hcs] at this
          simp at this; cases this
      · by_cases e : i = 0
        · subst e
          simp only [hpOf, upd_same, Option.some.injEq] at hc
          subst hc
          exact ⟨(by show 0 / 8 < 1; decide), fun s hs => (by cases hs)⟩
        · simp [hpOf, upd_other _ _ _ _ e] at hc
      · simp only [idxOf, hpOf, upd_same, Option.some.injEq, Prod.mk.injEq] at e
        obtain ⟨rfl, rfl⟩ := e
        exact ⟨rfl, hJ⟩
    refine wpIn_mono (h0 l go X 0 _ _ hok rfl h1) fun e a' w' ⟨st', hq, _, σ', κ', hw, hR⟩ => ?_
    have fin : ResOk P fn st' (Is (.tuple #[])) → (∃ k, st'.heap 0 = some (.idx ⟨l, n, vals, go⟩ k) ∧ k = stopN go n) → LeavesInM Fence.wide 0 P fn a'.tmps (fun e w' => ∃ v κ' D', e = .returned v ∧ κ'.w = w' ∧ κ.le κ' ∧ Bd D' κ' ∧ J (stopN go n) D' κ') a'.defers .returning w' := fun hres ⟨k, hk, hkn⟩ => by
      obtain ⟨ms, κ'', l1, l2, l3, l4, hR⟩ := hR.leave
      obtain ⟨v, hv, _⟩ := hres.run _ _ σ' κ'' hR
      obtain ⟨D', ms', hp⟩ := hR.prot
      rw [l1]
      refine leaves_ms ms w' l2 (fun r hr => by rw [← hw]; exact l3 r hr) ⟨v, by rw [← hw, ← l4]; exact hv, v, κ'', D', rfl, by rw [l4, hw], hR.le0, hp.bd, ?_⟩
      have := hp.j ⟨l, n, vals, go⟩ k (by simp [idxOf, hk])
      rw [← hkn]; exact this.2
    cases e with
    | normal => exact fin hq.1 hq.2
    | ret => exact fin hq.1 hq.2
    | exit _ => exact hq.elim
    | goto _ => exact hq.elim
    | panic _ => exact hq.elim
    | outgrown => exact hq.elim
section
variable {P : Program} {nid : Nat} {o : Oper} {ρ : Operand → AV} {h : Heap}
/-- a call of yield -/
theorem VOp.yield {fo : Operand} {xs : Array Operand} {ts : Array TypeId} {I : ItC} {k : Nat} (ho : o.op = .call { callee := .value fo, args := xs, argTypes := ts }) (hf : ρ fo = Is (.func (.yield I.l) #[] #[])) (hk : h 0 = some (.idx I k)) (hn : k < I.n) (hgo : ∀ j, j < k → I.go j = true)
    (ha : argsLe ρ xs.toList (I.vals k)) (hs : (I.vals k).flatMap AV.sup = []) : VOp P nid o ρ h ⟨Is (.bool (I.go k)), [0], [(0, some (.idx I (k + 1)))]⟩ where
  sup := fun U _ _ => ⟨fun s hs => (by cases hs), fun i c hc s hs => by
    simp only [List.mem_singleton, Prod.mk.injEq, Option.some.injEq] at hc
    obtain ⟨_, rfl⟩ := hc
    cases hs⟩
  wr := fun x hx => by
    simp only [List.mem_singleton] at hx
    subst hx
    exact .inl ⟨by simp, by rw [hk]; simp⟩
  run := fun X D mk σ κ h' a next Q n hok hops hrd hr hb hbd hdd hK hJ hsn hfr hnext => by
    have h0 : h' 0 = some (.idx I k) := by rw [hrd 0 (by simp), hk]
    have hj := hJ I k (by simp [idxOf, h0])
    have hxs : ∀ x ∈ xs.toList, (ρ x).p σ κ (a.eval x) := fun x hx => hops x (by rw [ho]; simp [Op.operands, Call.operands]; exact .inr (by simpa using hx))
    have hall : All2 σ κ (I.vals k) (xs.toList.map a.eval) := argsLe.all2 ha hxs
    have hf1 : a.eval fo = .func (.yield I.l) #[] #[] := by
      have := hops fo (by rw [ho]; simp [Op.operands, Call.operands])
      rw [hf] at this; exact this
    obtain ⟨fn', tm, as', bd', hy, hrnd⟩ := hok I k D κ hbd hK hj hn hgo _ (hall.loc (σ' := X.σ0) fun A hA i hi => by
      have := sup_mem hA hi
      rw [hs] at this; cases this) (n - 1)
    have e : Array.map a.eval xs = (xs.toList.map a.eval).toArray := by apply Array.ext'; simp
    have hd : ∀ c, o.op ≠ .defer c := fun c e => by rw [ho] at e; cases e
    refine ⟨fun f _ => rnd_fn _ f, ?_⟩
    rw [rnd_round, Oper.semAt_eq _ _ _ hd]
    have hrun : (execOp a.eval o).run P κ.w = .ok (.round I.l fn' tm as' bd') κ.w := by
      unfold execOp
      rw [ho]
      simp only [resolve, hf1, Deferred.ofValue, invoke, Sem.run_bind, Sem.run_pure, Result.andThen_ok]
      simp only [e, Array.empty_append]
      exact hy
    rw [hrun, Oper.uponIn_round]
    refine ⟨fun e => (by rw [rnd_depth] at e; cases e), ?_⟩
    have conv : ∀ {R : Ending → World → Prop}, RoundIn Fence.wide (n - 1) P I.l fn' tm as' bd' κ.w R → RoundIn (rnd X.round) (n - 1) P I.l fn' tm as' bd' κ.w R := fun hh => by
      cases X.round with
      | none => exact hh
      | some l => exact hh
    refine (conv hrnd).mono ?_
    rintro e2 w' ⟨κ', D', rfl, rfl, hle, hbd', hst, hK', hJ'⟩
    have hbl : ∀ b, X.base b ∨ mk b → κ'.own b = κ.own b ∧ κ'.w.heap[b]? = κ.w.heap[b]? ∧ ¬ D' b := fun b hb' => by
      have hlt := hb b (hb'.elim .inl fun h => .inr (.inr h))
      have hnd : ¬ D b := fun hD => hb'.elim (hdd b hD).1 (hdd b hD).2
      obtain ⟨h1, h2, h3⟩ := hst b hlt hnd
      exact ⟨h2, h3, h1⟩
    refine hnext (.bool (I.go k)) σ κ' D' hle (fun b hb' => ⟨(hbl b hb').1, (hbl b hb').2.1⟩) hbd' (fun b hD => ⟨fun hb' => (hbl b (.inl hb')).2.2 hD, fun hb' => (hbl b (.inr hb')).2.2 hD⟩) hK' (fun I' k' e => ?_) (fun _ _ => rfl) rfl ?_
    · simp only [updl, idxOf, upd_same, Option.some.injEq, Prod.mk.injEq] at e
      obtain ⟨rfl, rfl⟩ := e
      exact hJ'
    · have hσ0 : σ 0 = undef := hr.at_ 0 _ h0
      have old : ∀ i c, i ≠ 0 → updl h' [(0, some (.idx I (k + 1)))] i = some c → h' i = some c := fun i c hi hc => by
        simpa [updl, upd_other _ _ _ _ hi] using hc
      have keep : ∀ i c g, h' i = some c → blk (σ i) = some g → κ'.w.heap[g]? = κ.w.heap[g]? ∧ κ'.own g = κ.own g ∧ ¬ D' g := fun i c g hc hg => by
        have hnb := hr.base i c g hc hg
        obtain ⟨m, hm⟩ := Chunk.own (hr.at_ i c hc) hg
        obtain ⟨h1, h2, h3⟩ := hst g (κ.lt g m hm) (fun hD => hnb (.inr (.inl hD)))
        exact ⟨h3, h2, h1⟩
      refine ⟨fun i c hc => ?_, fun i j g hij hi hj hg => ?_, fun i c g hc hg => ?_⟩
      · by_cases e : i = 0
        · subst e
          simp only [updl, upd_same, Option.some.injEq] at hc
          subst hc; exact hσ0
        · have hc' := old i c e hc
          exact Chunk.keep hle (fun g hg => ⟨(keep i c g hc' hg).1, (keep i c g hc' hg).2.1⟩) (hr.at_ i c hc')
      · have some_ : ∀ i, updl h' [(0, some (.idx I (k + 1)))] i ≠ none → h' i ≠ none := fun i hi => by
          by_cases e : i = 0
          · subst e; rw [h0]; simp
          · simpa [updl, upd_other _ _ _ _ e] using hi
        exact hr.far i j g hij (some_ i hi) (some_ j hj) hg
      · by_cases e : i = 0
        · subst e; rw [hσ0] at hg; cases hg
        · have hc' := old i c e hc
          have hnb := hr.base i c g hc' hg
          intro hx
          rcases hx with hx | hx | hx
          · exact hnb (.inl hx)
          · exact (keep i c g hc' hg).2.2 hx
          · exact hnb (.inr (.inr hx))
end
theorem Runs_y {P : Program} {N c : Nat} {ops : Array Oper} {k : Nat} {env : Env} {heap : Heap} {K : List Res → Env → Heap → Prop} {o : Oper} {os : List Oper} {A : AV} {rd : List Nat} {wr : List (Nat × Option Chunk)} {d : Nat} (hg : o.guard = none) (hv : VOp P (c + k) o (ρof env) heap ⟨A, rd, wr⟩) (hdst : o.dst = some d) (hd : decide (d < N) = true)
    (h : Runs P N c ops (k + 1) os (upd env d A) (updl heap wr) (fun rs => K (⟨A, rd, wr⟩ :: rs))) : Runs P N c ops k (o :: os) env heap K :=
  ⟨⟨A, rd, wr⟩, by unfold GValid; rw [hg]; exact hv, by rw [hdst]; exact hd, by rw [hdst]; exact h⟩
theorem Runs_yesy {P : Program} {N c : Nat} {ops : Array Oper} {k : Nat} {env : Env} {heap : Heap} {K : List Res → Env → Heap → Prop} {o : Oper} {os : List Oper} {A : AV} {rd : List Nat} {wr : List (Nat × Option Chunk)} {j d e : Nat} {want : Bool} {g : Prop} (hg : o.guard = some (j, want)) (hj : (ops[j]?).bind (·.dst) = some d) (hβ : Grd (env d) want g) (hgg : g)
    (hv : VOp P (c + k) o (ρof env) heap ⟨A, rd, wr⟩) (hdst : o.dst = some e) (hd : decide (e < N) = true)
    (h : Runs P N c ops (k + 1) os (upd env e A) (updl heap wr) (fun rs => K (⟨A, rd, wr⟩ :: rs))) : Runs P N c ops k (o :: os) env heap K :=
  ⟨⟨A, rd, wr⟩, by unfold GValid; rw [hg]; exact ⟨d, g, hj, hβ, .inl ⟨hgg, hv⟩⟩, by rw [hdst]; exact hd, by rw [hdst]; exact h⟩
end Ab
end Go.Proofs.Ytmilegikgbmjpaa
