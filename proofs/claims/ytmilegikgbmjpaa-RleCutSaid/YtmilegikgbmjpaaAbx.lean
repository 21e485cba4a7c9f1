/-
  RANGES OVER FUNCTIONS: the statement over abstract states.
-/
import Derived.Test.YtmilegikgbmjpaaAbv
namespace Go.Proofs.Ytmilegikgbmjpaa
open Go.RowKit
namespace Ab
/-- what a function value has caught, as whoever is called reads it -/
def CapsOk (A B : List AV) : Prop := ∀ σ σ' (κ κ' : Kw) vs, (∀ b, b < κ.w.heap.size → κ'.w.heap[b]? = κ.w.heap[b]?) → (∀ b, b < κ.w.heap.size → κ.own b = none → κ'.own b = none) → All2 σ κ A vs → All2 σ' κ' B vs
theorem capsOk_nil : CapsOk [] [] := fun _ _ _ _ vs _ _ h => by cases vs with
  | nil => trivial
  | cons _ _ => exact h.elim
theorem capsOk_is {v : Value} {A B : List AV} (h : CapsOk A B) : CapsOk (Is v :: A) (Is v :: B) := fun σ σ' κ κ' vs h1 h2 h3 => by
  cases vs with
  | nil => exact h3.elim
  | cons u us => exact ⟨h3.1, h σ σ' κ κ' us h1 h2 h3.2⟩
/-- a cell that no one turns any more -/
def Fz (xs : List Value) : AV := ⟨fun _ κ u => ∃ b off, u = .pointer (some ⟨b, off, none⟩) ∧ b < κ.w.heap.size ∧ κ.own b = none ∧ ∀ j v, xs[j]? = some v → κ.w.cell? ⟨b, off + j, none⟩ = some v, [], fun _ h => h, fun hk ⟨b, off, h1, h2, h3, h4⟩ => by
  obtain ⟨k1, k2⟩ := hk.still b h2 h3
  exact ⟨b, off, h1, Nat.lt_of_lt_of_le h2 hk.size, k1, fun j v hj => by have := h4 j v hj; simp only [World.cell?] at this ⊢; rw [k2]; exact this⟩⟩
theorem capsOk_fz {xs : List Value} {A B : List AV} (h : CapsOk A B) : CapsOk (Fz xs :: A) (Elt xs :: B) := fun σ σ' κ κ' vs h1 h2 h3 => by
  cases vs with
  | nil => exact h3.elim
  | cons u us =>
    obtain ⟨⟨b, off, k1, k2, k3, k4⟩, h4⟩ := h3
    refine ⟨⟨⟨b, off, none⟩, k1, fun j v hj => ⟨rfl, ?_, fun m hm => ?_⟩⟩, h σ σ' κ κ' us h1 h2 h4⟩
    · have := k4 j v hj
      simp only [World.cell?] at this ⊢
      rw [h1 b k2]; exact this
    · rw [h2 b k2 k3] at hm; cases hm
/-- a variable that is never turned again -/
theorem frz_box {σ : Names} {κ : Kw} {id : Nat} {vs : List Value} {u : Value} (h : (Ptr id 0).p σ κ u) (hz : ∀ b, σ id = .pointer (some ⟨b, 0, none⟩) → b < κ.w.heap.size ∧ κ.own b = none ∧ ∀ j v, vs[j]? = some v → κ.w.cell? ⟨b, j, none⟩ = some v) : (Fz vs).p σ κ u := by
  obtain ⟨b, h1, h2⟩ := h
  obtain ⟨h3, h4, h5⟩ := hz b h1
  exact ⟨b, 0, h2, h3, h4, fun j v hj => by rw [Nat.zero_add]; exact h5 j v hj⟩
theorem Ent.freezeB {st : St} (k id : Nat) {t : TypeId} {vs : List Value} {A' : AV} (hh : st.heap id = some (.var t (vs.map Is)))
    (hA : ∀ σ κ v, (st.env k).p σ κ v → (∀ b, σ id = .pointer (some ⟨b, 0, none⟩) → b < κ.w.heap.size ∧ κ.own b = none ∧ ∀ j v, vs[j]? = some v → κ.w.cell? ⟨b, j, none⟩ = some v) → A'.p σ κ v) (hs : ∀ s ∈ A'.sup, s ∈ (st.env k).sup) :
    Ent st ⟨upd st.env k A', upd st.heap id none, st.cnt⟩ := by
  intro X a w ⟨hc1, σ, κ, hw, h⟩
  obtain ⟨b, us, hb1, hb2, hb3, hb4⟩ := h.hr.at_ id _ hh
  have hus : us.toList = vs := all2_known hb3
  have hblk : blk (σ id) = some b := by rw [hb1]; rfl
  let own' : Nat → Option Nat := fun g => if g = b then none else κ.own g
  have hlt : ∀ g m, own' g = some m → g < κ.w.heap.size := fun g m hg => by
    simp only [own'] at hg
    split at hg
    · cases hg
    · exact κ.lt g m hg
  have hle : κ.le ⟨κ.w, own', hlt⟩ := { os := rfl, tape := rfl, output := rfl, size := Nat.le_refl _, still := fun g hg ho => ⟨by simp [own', ho], rfl⟩, grow := fun g m hm => ⟨fun k' hk' => by
    have hk' : (if g = b then none else κ.own g) = some k' := hk'
    split at hk'
    · cases hk'
    · rw [hm] at hk'; cases hk'; exact Nat.le_refl _, fun j u _ hu => hu⟩ }
  have hne : ∀ g, g ≠ b → own' g = κ.own g := fun g hg => by simp only [own', if_neg hg]
  have hno : ∀ i, i ≠ id → ∀ c, upd st.heap id none i = some c → st.heap i = some c := fun i hi c hc => by rwa [upd_other _ _ _ _ hi] at hc
  have hni : ∀ i c, upd st.heap id none i = some c → i ≠ id := fun i c hc e => by rw [e, upd_same] at hc; cases hc
  have hnn : ∀ i, upd st.heap id none i ≠ none → i ≠ id ∧ st.heap i ≠ none := fun i hi => by
    have : i ≠ id := fun e => hi (by rw [e, upd_same])
    exact ⟨this, by rwa [upd_other _ _ _ _ this] at hi⟩
  have hcell : ∀ j v, vs[j]? = some v → κ.w.cell? ⟨b, j, none⟩ = some v := fun j v hj => by
    rw [cell_of_row _ _ _ _ _ _ hb2, ← hus] at *
    simpa using hj
  refine ⟨hc1, σ, ⟨κ.w, own', hlt⟩, hw, { tmps := h.tmps, prot := ?_, base := h.base, pin := h.pin, env_ := fun t => ?_, le0 := Kw.le_trans h.le0 hle, old := fun g hg => ?_, hr := ⟨fun i c hc => ?_, fun i j g hij hi hj => ?_, fun i c g hc => ?_⟩, sup := fun t s hs' => ?_, hsup := fun i c hc => ?_ }⟩
  · by_cases e : t = k
    · subst e
      simp only [upd_same]
      refine hA σ _ _ ((st.env t).mono hle (h.env_ t)) fun b' hb' => ?_
      rw [hb1] at hb'; cases hb'
      exact ⟨(Array.getElem?_eq_some_iff.1 hb2).1, by simp [own'], hcell⟩
    · simp only [upd_other _ _ _ _ e]
      exact (st.env t).mono hle (h.env_ t)
  · have hi := hni i c hc
    have hc' := hno i hi c hc
    refine Chunk.keep hle (fun g hg => ⟨rfl, hne g ?_⟩) (h.hr.at_ i c hc')
    exact fun e => h.hr.far i id g hi (by rw [hc']; exact fun x => by cases x) (by rw [hh]; exact fun x => by cases x) hg (by rw [hblk, e])
  · exact h.hr.far i j g hij (hnn i hi).2 (hnn j hj).2
  · exact h.hr.base i c g (hno i (hni i c hc) c hc)
  · have hgb : g ≠ b := fun e => h.hr.base id _ b hh hblk (e ▸ hg)
    have := h.old g hg
    exact ⟨(hne g hgb).trans this.1, this.2⟩
  · by_cases e : t = k
    · subst e
      simp only [upd_same] at hs'
      exact h.sup t s (hs s hs')
    · simp only [upd_other _ _ _ _ e] at hs'
      exact h.sup t s hs'
  · exact h.hsup i c (hno i (hni i c hc) c hc)
  · obtain ⟨D, ms, hp⟩ := h.prot
    have hb := hp.far id _ b hh hblk
    refine ⟨D, ms, hp.to hle (fun g hg => ⟨hne g (fun e => hb.1 (e ▸ hg)), rfl⟩) (fun g hg => ⟨hne g (fun e => hb.2 (e ▸ hg)), rfl⟩) (fun i c g hc hg => hp.far i c g (hno i (hni i c hc) c hc) hg) (fun I k e => ?_)⟩
    by_cases e0 : 0 = id
    · subst e0; simp [idxOf, upd_same] at e
    · rw [← e]; exact (idxOf_congr (upd_other _ _ _ _ e0)).symm
/-- a loop is entered -/
theorem enter_loop {P : Program} (κ : Kw) (r : Option Nat) (hr : ∀ l, r = some l → ∃ q, κ.w.heap[l]? = some (.loop q)) (f0 : FuncId) (tm : Array Value) (ps : Array Tmp) (assign body : Code) :
    ∃ l dm dv, ∃ κ1 : Kw, (Instr.enterLoop f0 tm ps assign body r).run P κ.w = .ok (l, (Option.toList dm).map mark) κ1.w ∧ κ.le κ1 ∧ (∀ b, b < κ.w.heap.size → κ1.own b = κ.own b ∧ κ1.w.heap[b]? = κ.w.heap[b]?) ∧ κ.w.heap.size ≤ l ∧ κ1.own l = some 0 ∧
      κ1.w.heap[l]? = some (.loop { state := .ready, pending := none, fn := f0, tmps := tm, params := ps, assign, body, defers := dv }) ∧ ∀ d, dm = some d → κ1.own d = some 0 ∧ κ1.w.heap[d]? = some (.deferred (some [])) ∧ κ.w.heap.size ≤ d ∧ d ≠ l := by
  have alloc : ∀ (κ : Kw) (o : Obj), ∃ κ' : Kw, κ'.w = κ.w.alloc o ∧ κ.le κ' ∧ (∀ b, b < κ.w.heap.size → κ'.own b = κ.own b ∧ κ'.w.heap[b]? = κ.w.heap[b]?) ∧ κ'.own κ.w.heap.size = some 0 ∧ κ'.w.heap[κ.w.heap.size]? = some o ∧ κ'.w.heap.size = κ.w.heap.size + 1 := fun κ o => by
    let own' : Nat → Option Nat := fun b => if b = κ.w.heap.size then some 0 else κ.own b
    have hsz : (κ.w.alloc o).heap.size = κ.w.heap.size + 1 := by simp
    have hlt : ∀ b m, own' b = some m → b < (κ.w.alloc o).heap.size := fun b m hb => by
      simp only [own'] at hb
      split at hb
      · omega
      · have := κ.lt b m hb; omega
    have hh : ∀ b, b < κ.w.heap.size → (κ.w.alloc o).heap[b]? = κ.w.heap[b]? := fun b hb => Below.heap_alloc _ _ _ hb
    have ho : ∀ b, b < κ.w.heap.size → own' b = κ.own b := fun b hb => by simp only [own', if_neg (show ¬ b = κ.w.heap.size by omega)]
    refine ⟨⟨κ.w.alloc o, own', hlt⟩, rfl, ⟨rfl, rfl, rfl, by rw [hsz]; omega, fun b hb hn => ⟨(ho b hb).trans hn, hh b hb⟩, fun b m hb => ⟨fun m' hm' => ?_, fun j u _ hu => ?_⟩⟩, fun b hb => ⟨ho b hb, hh b hb⟩, by simp [own'], World.alloc_heap_new _ _, hsz⟩
    · have hm' : own' b = some m' := hm'
      rw [ho b (κ.lt b m hb), hb] at hm'; cases hm'; exact Nat.le_refl _
    · simp only [World.cell?] at hu ⊢
      rw [hh b (κ.lt b m hb)]; exact hu
  cases r with
  | none =>
    obtain ⟨κa, a1, a2, a3, a4, a5, a6⟩ := alloc κ (.deferred (some []))
    obtain ⟨κb, b1, b2, b3, b4, b5, b6⟩ := alloc κa (.loop { state := .ready, pending := none, fn := f0, tmps := tm, params := ps, assign, body, defers := κ.w.heap.size })
    have hd := b3 κ.w.heap.size (by omega)
    refine ⟨κ.w.heap.size + 1, some κ.w.heap.size, κ.w.heap.size, κb, ?_, Kw.le_trans a2 b2, fun b hb => ?_, by omega, by rw [← a6]; exact b4, by rw [← a6]; exact b5, fun d e => ?_⟩
    · rw [b1, a1]; exact run_enterLoop_outer _ _ _ _ _
    · have h1 := a3 b hb
      have h2 := b3 b (by omega)
      exact ⟨h2.1.trans h1.1, h2.2.trans h1.2⟩
    · cases e
      exact ⟨hd.1.trans a4, hd.2.trans a5, Nat.le_refl _, by omega⟩
  | some l0 =>
    obtain ⟨q, hq⟩ := hr l0 rfl
    obtain ⟨κb, b1, b2, b3, b4, b5, b6⟩ := alloc κ (.loop { state := .ready, pending := none, fn := f0, tmps := tm, params := ps, assign, body, defers := q.defers })
    exact ⟨κ.w.heap.size, none, q.defers, κb, by rw [b1]; exact run_enterLoop_inner hq _ _ _ _ _, b2, b3, Nat.le_refl _, b4, b5, fun d e => by cases e⟩
/-- FOR .. RANGE over a function -/
theorem W_range {P : Program} {N : Nat} {st : St} {Q : Exit → St → Prop} {g : Operand} {ps : Array Tmp} {assign body jc : Code} {gf : FuncId} {capsC caps : List AV} {n : Nat} {vals : Nat → List AV} {go : Nat → Bool} {h0 : List (Nat × Chunk)} {hin hin' : Nat → List (Nat × Chunk)} {fx : List (Nat × AV)} (m : List (Nat × Nat)) (θ0 : List (Nat × Nat))
    (hg : ρof st.env g = FnV gf [] capsC) (hcaps : CapsOk capsC caps) (hit : FIter P gf caps n vals)
    (hps : ps.toList.all (fun p => Nat.blt p N) = true) (hpn : ∀ k, (vals k).length = ps.size) (hvals : ∀ k, ValsOk (vals k)) (hfx8 : fx.all (fun x => x.2.sup.all (fun s => Nat.blt s 8)) = true) (hfx : EnvLe (nmap st.cnt m) st.env fx)
    (hhin : ∀ k, (hin k).all (fun x => Nat.blt 0 x.1 && Nat.blt x.1 16 && x.2.sup.all (fun s => Nat.blt s 16)) = true)
    (hh : HpIn (nmap st.cnt m) st.heap h0) (hm : m.all (fun x => !Nat.beq (x.2 / 8) st.cnt && Nat.blt x.1 8) = true) (hki : h0.all (fun x => (lookN m x.1).isSome && Nat.blt x.1 8) = true) (hinj : injB (nmap st.cnt m) h0 = true)
    (hθ1 : HpLe (thf θ0) (hpOf h0) (hin 0)) (hθ2 : injB (thf θ0) (hin 0) = true) (hθ3 : θ0.all (fun x => Nat.ble 8 x.1) = true)
    (hsO : ∀ k, (hin k).all (fun x => okN m x.1 && x.2.sup.all (okN m)) = true) (hnd : ∀ k, nodupB ((hin k).map Prod.fst) = true) (hO : ∀ k, HpUp (nmap st.cnt m) (hin k) (hin' k))
    (hz : h0.all (fun x => !Nat.beq (nmap st.cnt m x.1) 0) = true) (hs2 : ∀ k, (hin' k).all (fun x => Nat.blt 0 x.1 && Nat.blt (x.1 / 8) (st.cnt + 1) && x.2.sup.all (fun s => Nat.blt (s / 8) (st.cnt + 1))) = true)
    (hbody : ∀ k, k < n → (∀ j, j < k → go j = true) → W P N assign ⟨foldE (envOf fx) ps.toList (vals k), hpOf (hin k), 2⟩ (fun e st1 => e = .normal ∧ W P N body st1 (RoundQ (go k) jc (hin (k + 1)))))
    (hdone : (∀ j, j < n → go j = true) → Q .normal ⟨st.env, updl st.heap (h0.map (fun x => (nmap st.cnt m x.1, none)) ++ (hin' n).map (fun x => (x.1, some x.2))), st.cnt + 1⟩)
    (hstop : ∀ k, k < n → (∀ j, j < k → go j = true) → go k = false → W P N jc ⟨st.env, updl st.heap (h0.map (fun x => (nmap st.cnt m x.1, none)) ++ (hin' (k + 1)).map (fun x => (x.1, some x.2))), st.cnt + 1⟩ Q) :
    W P N (.rangeFunc g ps assign body) st Q := by
  intro X nn a w hok hN ⟨hc1, σ, κ, hw, h⟩
  subst hw
  obtain ⟨D, ms, hp⟩ := h.prot
  have hgv := h.eval g
  rw [hg] at hgv
  obtain ⟨us, vs, hgv, hus, hvs⟩ := hgv
  have hus : us = [] := by
    cases us with
    | nil => rfl
    | cons _ _ => exact hus.elim
  subst hus
  let K := stopN go n
  have hrb : HR (fun b => X.base b ∨ D b ∨ b ∈ ms) σ κ st.heap := ⟨h.hr.at_, h.hr.far, fun i c g hc hg hb => by
    rcases hb with hb | hb | hb
    · exact h.hr.base i c g hc hg hb
    · exact (hp.far i c g hc hg).1 hb
    · exact (hp.far i c g hc hg).2 hb⟩
  have hlb : ∀ b, X.base b ∨ D b ∨ b ∈ ms → b < κ.w.heap.size := fun b hb => by
    rcases hb with hb | hb | hb
    · exact h.base b hb
    · exact (hp.bd b hb).1
    · exact hp.lt hb
  have hfresh : ∀ i c, st.heap i = some c → i / 8 ≠ st.cnt ∧ ∀ s ∈ c.sup, s / 8 ≠ st.cnt := fun i c hc => by
    obtain ⟨h1, h2⟩ := h.hsup i c hc
    have h1 : i / 8 < st.cnt := h1
    exact ⟨by omega, fun s hs => by have : s / 8 < st.cnt := h2 s hs; omega⟩
  obtain ⟨c1, c2, c3⟩ := mem_core m hm hki hinj hh (hsO K) (nodupB_spec (hnd K)) (hO K) _ σ κ st.heap (fun _ _ => rfl) hrb hlb hfresh
  refine wpIn_rangeFunc fun f0 _ => ?_
  rw [rnd_round]
  obtain ⟨l, dm, dv, κ1, e1, e2, e3, e4, e5, e6, e7⟩ := enter_loop (P := P) κ X.round (fun l hl => (X.rd l hl D κ hp.k).2) f0 a.tmps ps assign body
  let R : RG := { σ0 := fun i => σ (nmap st.cnt m i), κ0 := κ, fr := fun b => b < κ.w.heap.size ∧ ∀ j c, hpOf h0 j = some c → blk (σ (nmap st.cnt m j)) ≠ some b, frlt := fun b hb => hb.1, l, dm, rc := fun s p => { state := s, pending := p, fn := f0, tmps := a.tmps, params := ps, assign, body, defers := dv }, hin, go, jc }
  have hJst : ∀ k D κ κ', (∃ σ κ'', Lk R k D κ σ κ'') → κ.le κ' → Still D κ κ' → ∃ σ κ'', Lk R k D κ' σ κ'' := fun k D κ κ' ⟨σ, κ'', hl⟩ hle hs => by
    obtain ⟨κ3, h3⟩ := hl.still hle hs
    exact ⟨σ, κ3, h3⟩
  have hY : ∀ σx, Yields P l n vals go σx (fun k D κ => ∃ σ κ', Lk R k D κ σ κ') := Lk.round (R := R) (a := a) (f0 := f0) (ps := ps) (assign := assign) (body := body) (dv := dv) (N := N) (fx := fx) (fun _ _ => rfl) (h.tmps.trans hN) (fun p hp => by
      have := List.all_eq_true.1 hps p hp
      simpa [Nat.blt_eq] using this) hpn hvals hfx8 hhin (fun t => hfx.at_ t σ κ _ (h.env_ t)) hbody
  let κi : Kw := ⟨κ1.w, fun b => if κ1.own b = none then none else some 0, fun b j hj => by
    split at hj
    · cases hj
    · rename_i hn
      cases ho : κ1.own b with
      | none => exact absurd ho hn
      | some j' => exact κ1.lt b j' ho⟩
  have hio : ∀ b, κi.own b = none ↔ κ1.own b = none := fun b => by
    show (if κ1.own b = none then none else some 0) = none ↔ _
    by_cases e : κ1.own b = none
    · simp [e]
    · simp [e]
  have hL0 : Lk R 0 (fun b => κ1.own b ≠ none) κi (fun i => σ (nmap st.cnt m (thf θ0 i))) κ1 := by
    have hb : ∀ i d g, hpOf (hin 0) i = some d → blk (σ (nmap st.cnt m (thf θ0 i))) = some g → ∃ c, hpOf h0 (thf θ0 i) = some c ∧ g < κ.w.heap.size ∧ κ1.own g ≠ none := fun i d g hd hg => by
      obtain ⟨c, hc, hlq⟩ := hθ1.at_ i d hd
      obtain ⟨j, hj⟩ := Chunk.own (c1.at_ _ c hc) hg
      have hlt := κ.lt g j hj
      exact ⟨c, hc, hlt, by rw [(e3 g hlt).1, hj]; simp⟩
    refine { w := rfl, own := fun b => (hio b).symm, low := fun b hb j hj => absurd (by rw [hj]; simp) hb, din := fun _ h => h, pin := fun i hi => by show σ (nmap st.cnt m (thf θ0 i)) = _; rw [thf_low θ0 hθ3 i hi], le := e2, fr := fun b hb => e3 b hb.1, frD := fun b hb ho => by rw [(e3 b hb.1).1]; exact ho, hr := ⟨fun i d hd => ?_, fun i j g hij hi hj hg => ?_, fun i d g hd hg hfr => ?_⟩, ch := fun i d g hd hg => ?_, ll := ⟨by rw [e5]; simp, e5, e6, e4⟩, dd := fun d hd => ?_ }
    · obtain ⟨c, hc, hlq⟩ := hθ1.at_ i d hd
      exact hlq.at_ (σ := fun i => σ (nmap st.cnt m i)) (Chunk.keep e2 (fun g hg => by
        obtain ⟨j, hj⟩ := Chunk.own (c1.at_ _ c hc) hg
        exact ⟨(e3 g (κ.lt g j hj)).2, (e3 g (κ.lt g j hj)).1⟩) (c1.at_ _ c hc))
    · cases hdi : hpOf (hin 0) i with
      | none => exact absurd hdi hi
      | some d =>
        cases hdj : hpOf (hin 0) j with
        | none => exact absurd hdj hj
        | some d' =>
          obtain ⟨c, hc, _⟩ := hθ1.at_ i d hdi
          obtain ⟨c', hc', _⟩ := hθ1.at_ j d' hdj
          exact c1.far (thf θ0 i) (thf θ0 j) g (injB.spec hθ2 (i, d) (hpOf_mem hdi) (j, d') (hpOf_mem hdj) hij) (by rw [hc]; simp) (by rw [hc']; simp) hg
    · obtain ⟨c, hc, hlq⟩ := hθ1.at_ i d hd
      exact c1.base _ c g hc hg hfr
    · obtain ⟨c, hc, h1, h2⟩ := hb i d g hd hg
      exact ⟨h2, by show g ≠ l; omega, fun e => by have := (e7 g e).2.2.1; omega⟩
    · obtain ⟨d1, d2, d3, d4⟩ := e7 d hd
      exact ⟨by rw [d1]; simp, d1, d2, d3, d4⟩
  have hcall := hit.calls l go (fun k D κ => ∃ σ κ', Lk R k D κ σ κ') (fun b => κ1.own b ≠ none) σ κi vs (hcaps σ σ κ κi vs (fun b hb => (e3 b hb).2) (fun b hb ho => (hio b).2 ((e3 b hb).1.trans ho)) hvs) hJst hY (fun b hb => by
    have : κi.own b = some 0 := by
      show (if κ1.own b = none then none else some 0) = some 0
      rw [if_neg hb]
    exact ⟨κi.lt b 0 this, this⟩) ⟨_, κ1, hL0⟩
  refine ⟨l, _, κ1.w, { target := .fn (.func gf) vs.toArray, args := #[.func (.yield l) #[] #[]] }, κ1.w, gf, (Value.func (.yield l) #[] #[] :: vs).toArray, κ1.w, e1, ?_, fun f' _ => rnd_fn _ f', ?_, fun e => (by rw [rnd_depth] at e; cases e), callsIn_rnd.2 (hcall.mono ?_)⟩
  · simp only [resolve, hgv]
    simp [go_sem]
  · have : (#[Value.func (.yield l) #[] #[]] ++ vs.toArray : Array Value) = (Value.func (.yield l) #[] #[] :: vs).toArray := by apply Array.ext'; simp
    simp [invoke, go_sem, hit.ent, this]
  rintro e w' ⟨v, κ', D', rfl, rfl, hle', hbd', σk, κk, hL⟩
  have hend : ∀ p, (R.st K).pending = p → (R.st K).state ≠ .busy → (Instr.endLoop l).run P κ'.w = .ok p (κ'.w.putObj l (.loop { R.st K with state := .exhausted })) := fun p hpp hb => by
    have hl : κ'.w.heap[l]? = some (.loop (R.st K)) := by rw [← hL.w]; exact hL.ll.2.2.1
    rw [← hpp]; exact run_endLoop hl hb
  obtain ⟨l1, l2, l3, l4⟩ := hL.ll
  have hne : ∀ b, b ≠ l → (κk.w.putObj l (.loop { R.st K with state := .exhausted })).heap[b]? = κk.w.heap[b]? := fun b hb => World.putObj_heap_other hb
  have hltk : ∀ b j, κk.own b = some j → b < (κk.w.putObj l (.loop { R.st K with state := .exhausted })).heap.size := fun b j hb => by simpa using κk.lt b j hb
  have hlek : κk.le ⟨κk.w.putObj l (.loop { R.st K with state := .exhausted }), κk.own, hltk⟩ := ⟨rfl, rfl, rfl, by simp, fun b _ hb => ⟨hb, hne b (fun e => by rw [e] at hb; rw [show κk.own l = some 0 from l2] at hb; cases hb)⟩, fun b j hb => ⟨fun j' hj' => by have hj' : κk.own b = some j' := hj'; rw [hb] at hj'; cases hj'; exact Nat.le_refl _, fun i u hi hu => by
    have hb' : b ≠ l := fun e => by
      rw [e, show κk.own l = some 0 from l2] at hb; cases hb; exact absurd hi (Nat.not_lt_zero _)
    simp only [World.cell?] at hu ⊢
    rw [hne b hb']; exact hu⟩⟩
  have hle4 := Kw.le_trans hL.le hlek
  have hfr4 : ∀ b, R.fr b → κk.own b = κ.own b ∧ (κk.w.putObj l (.loop { R.st K with state := .exhausted })).heap[b]? = κ.w.heap[b]? := fun b hb => by
    have h1 := hL.fr b hb
    have : b ≠ l := fun e => by have := hb.1; omega
    exact ⟨h1.1, (hne b this).trans h1.2⟩
  have hRS : RS X ⟨st.env, updl st.heap (h0.map (fun x => (nmap st.cnt m x.1, none)) ++ (hin' K).map (fun x => (x.1, some x.2))), st.cnt + 1⟩ { a with defers := (Option.toList dm).map mark ++ a.defers } (κk.w.putObj l (.loop { R.st K with state := .exhausted })) := by
    obtain ⟨σ', s1, s2, s3, s4⟩ := c3 ⟨_, κk.own, hltk⟩ σk hle4 hL.pin hfr4 ⟨fun i c hc => Chunk.keep hlek (fun g hg => ⟨hne g (hL.ch i c g hc hg).2.1, rfl⟩) (hL.hr.at_ i c hc), hL.hr.far, hL.hr.base⟩
    have hbf : ∀ b, X.base b ∨ D b ∨ b ∈ ms → κk.own b = κ.own b ∧ (κk.w.putObj l (.loop { R.st K with state := .exhausted })).heap[b]? = κ.w.heap[b]? := fun b hb => hfr4 b (c2 b hb)
    have hfarb : ∀ i c g, updl st.heap (h0.map (fun x => (nmap st.cnt m x.1, none)) ++ (hin' K).map (fun x => (x.1, some x.2))) i = some c → blk (σ' i) = some g → ∀ d, dm = some d → g ≠ d := fun i c g hc hg d hd => by
      obtain ⟨d1, d2, d3, d4, d5⟩ := hL.dd d hd
      have d4 : κ.w.heap.size ≤ d := d4
      rcases s4 i c g hc hg with h5 | ⟨j, c', h5, h6⟩
      · omega
      · exact fun e => (hL.ch j c' g h5 h6).2.2 (by rw [e]; exact hd)
    refine ⟨Nat.le_succ_of_le hc1, σ', ⟨_, κk.own, hltk⟩, rfl, { tmps := h.tmps, base := fun b hb => Nat.lt_of_lt_of_le (h.base b hb) hle4.size, pin := fun i hi => (s1 i (by omega)).trans (h.pin i hi), env_ := fun t => (st.env t).mono hle4 ((st.env t).loc (fun i hi => s1 i (by have : i / 8 < st.cnt := h.sup t i hi; omega)) (h.env_ t)), hr := ⟨s3.at_, s3.far, fun i c g hc hg hb => s3.base i c g hc hg (.inl hb)⟩, le0 := Kw.le_trans h.le0 hle4, old := fun b hb => ⟨(hbf b (.inl hb)).1.trans (h.old b hb).1, (hbf b (.inl hb)).2.trans (h.old b hb).2⟩, sup := fun t s hs => ?_, hsup := fun i c hc => ?_, prot := ⟨D, Option.toList dm ++ ms, ?_⟩ }⟩
    · have : s / 8 < st.cnt := h.sup t s hs
      show s / 8 < st.cnt + 1; omega
    · have e1 : (h0.map (fun x => (nmap st.cnt m x.1, (none : Option Chunk)))) = ((h0.map fun x => nmap st.cnt m x.1).map fun k => (k, none)) := by rw [List.map_map]; rfl
      have hc' : updl st.heap (h0.map (fun x => (nmap st.cnt m x.1, none)) ++ (hin' K).map (fun x => (x.1, some x.2))) i = some c := hc
      rw [updl_append, e1] at hc'
      by_cases hin1 : i ∈ (hin' K).map Prod.fst
      · have := List.all_eq_true.1 (hs2 K) (i, c) (updl_some_in _ _ _ _ hin1 hc')
        simp only [Bool.and_eq_true, Nat.blt_eq] at this
        exact ⟨this.1.2, fun s hs => by simpa [Nat.blt_eq] using List.all_eq_true.1 this.2 s hs⟩
      · rw [updl_some_out _ _ _ hin1, updl_none] at hc'
        split at hc'
        · cases hc'
        · obtain ⟨h5, h6⟩ := h.hsup i c hc'
          have h5 : i / 8 < st.cnt := h5
          exact ⟨by show i / 8 < st.cnt + 1; omega, fun s hs => by have : s / 8 < st.cnt := h6 s hs; show s / 8 < st.cnt + 1; omega⟩
    · have hst : Still D κ ⟨κk.w.putObj l (.loop { R.st K with state := .exhausted }), κk.own, hltk⟩ := fun b hb => hbf b (.inr (.inl hb))
      have hidx : idxOf (updl st.heap (h0.map (fun x => (nmap st.cnt m x.1, none)) ++ (hin' K).map (fun x => (x.1, some x.2)))) = idxOf st.heap := idxOf_congr (updl_zero _ _ (by
        rw [List.all_append, Bool.and_eq_true, List.all_map, List.all_map]
        refine ⟨hz, List.all_eq_true.2 fun x hx => ?_⟩
        have := List.all_eq_true.1 (hs2 K) x hx
        simp only [Bool.and_eq_true, Nat.blt_eq] at this
        show (!Nat.beq x.1 0) = true
        cases e : Nat.beq x.1 0 with
        | false => rfl
        | true => have := Nat.eq_of_beq_eq_true e; omega))
      have hdm : ∀ d, d ∈ Option.toList dm ↔ dm = some d := fun d => by cases dm <;> simp [eq_comm]
      exact { bd := fun b hb => ⟨Nat.lt_of_lt_of_le (hp.bd b hb).1 hle4.size, (hst b hb).1.trans (hp.bd b hb).2⟩
              nb := hp.nb
              far := fun i c g hc hg => ⟨fun hD => s3.base i c g hc hg (.inr (.inl hD)), fun hm' => by
                rcases List.mem_append.1 hm' with h5 | h5
                · exact hfarb i c g hc hg g ((hdm g).1 h5) rfl
                · exact s3.base i c g hc hg (.inr (.inr h5))⟩
              k := X.stK _ _ _ hp.k hle4 hst
              j := fun I k e => X.stJ _ _ _ _ _ (hp.j I k (by rw [← hidx]; exact e)) hle4 hst
              ds := by rw [List.map_append, ← hp.ds]
              nodup := List.nodup_append.2 ⟨by cases dm <;> simp, hp.nodup, fun x hx y hy e => by
                have h5 := (hdm x).1 hx
                have h6 := (hL.dd x h5).2.2.2.1
                have h6 : κ.w.heap.size ≤ x := h6
                have := hp.lt hy
                omega⟩
              marks := fun r hr => by
                rcases List.mem_append.1 hr with h5 | h5
                · obtain ⟨d1, d2, d3, d4, d5⟩ := hL.dd r ((hdm r).1 h5)
                  have d4 : κ.w.heap.size ≤ r := d4
                  exact ⟨fun hD => by have := (hp.bd r hD).1; omega, fun hb => by have := h.base r hb; omega, Nat.le_trans h.le0.size d4, d2, (hne r d5).trans d3⟩
                · obtain ⟨d1, d2, d3, d4, d5⟩ := hp.marks r h5
                  have := hbf r (.inr (.inr h5))
                  exact ⟨d1, d2, d3, this.1.trans d4, this.2.trans d5⟩ }
  have hRS' : RS X ⟨st.env, updl st.heap (h0.map (fun x => (nmap st.cnt m x.1, none)) ++ (hin' K).map (fun x => (x.1, some x.2))), st.cnt + 1⟩ { a with defers := (Option.toList dm).map mark ++ a.defers } (κ'.w.putObj l (.loop { R.st K with state := .exhausted })) := by rw [← hL.w]; exact hRS
  rcases stop_cases go n with ⟨hK, hall⟩ | ⟨k, hk, hall, hgk, hK⟩
  · have hst : R.st K = R.rc .ready none := by
      rw [RG.st, if_pos (all_range.2 fun j hj => hall j (by show j < n; rw [← hK]; exact hj))]
    refine ⟨none, _, hend none (by rw [hst]) (by rw [hst]; simp [R]), ?_⟩
    refine ⟨_, hdone hall, ?_⟩
    rw [show n = K from hK.symm]
    exact hRS'
  · have hst : R.st K = R.rc .done (some jc) := by
      rw [RG.st, if_neg (fun h5 => by
        have := all_range.1 h5 k (by show k < stopN go n; omega)
        rw [show R.go k = go k from rfl, hgk] at this; cases this)]
    refine ⟨some jc, _, hend (some jc) (by rw [hst]) (by rw [hst]; simp [R]), ?_⟩
    refine hstop k hk hall hgk X nn _ _ hok hN ?_
    rw [show k + 1 = K from hK.symm]
    exact hRS'
end Ab
end Go.Proofs.Ytmilegikgbmjpaa
