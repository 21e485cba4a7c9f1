/-
  OPERATIONS OVER ABSTRACT STATES: memory of the call's own; a function's contract.
-/
import Derived.Test.YtmilegikgbmjpaaAb5
import Derived.Tactics
namespace Go.Proofs.Ytmilegikgbmjpaa
open Go.RowKit
namespace Ab
/-- memory behind a step: a chunk laid, some gone -/
theorem HR.set {base : Nat → Prop} {σ : Names} {κ κ' : Kw} {h : Heap} (hr : HR base σ κ h) (hle : κ.le κ') (id : Nat) (v : Value) (c : Chunk) (gone : Nat → Bool)
    (hkeep : ∀ i d, h i = some d → i ≠ id → gone i = false → ∀ g, blk (σ i) = some g → κ'.w.heap[g]? = κ.w.heap[g]? ∧ κ'.own g = κ.own g)
    (hc : c.at (upd σ id v) κ' v) (hfar : ∀ i g, h i ≠ none → i ≠ id → gone i = false → blk (σ i) = some g → blk v ≠ some g) (hb : ∀ g, blk v = some g → ¬ base g)
    (hs : ∀ i d, h i = some d → i ≠ id → gone i = false → ∀ j ∈ d.sup, upd σ id v j = σ j) (h' : Heap) (h1 : h' id = some c) (h2 : ∀ i, i ≠ id → gone i = false → h' i = h i) (h3 : ∀ i, i ≠ id → gone i = true → h' i = none) : HR base (upd σ id v) κ' h' where
  at_ := fun i d hd => by
    by_cases e : i = id
    · subst e
      rw [h1] at hd; cases hd
      rw [upd_same]; exact hc
    · rw [upd_other _ _ _ _ e]
      cases hg : gone i with
      | true => rw [h3 i e hg] at hd; cases hd
      | false =>
        rw [h2 i e hg] at hd
        exact Chunk.keep hle (hkeep i d hd e hg) (Chunk.loc (hs i d hd e hg) (hr.at_ i d hd))
  far := fun i j g hij hi hj hg => by
    have live : ∀ i, i ≠ id → h' i ≠ none → gone i = false ∧ h i ≠ none := fun i e hi => by
      cases hg : gone i with
      | true => exact absurd (h3 i e hg) hi
      | false => exact ⟨rfl, by rw [← h2 i e hg]; exact hi⟩
    by_cases e : i = id
    · subst e
      rw [upd_same] at hg
      have ej : j ≠ i := fun e => hij e.symm
      obtain ⟨l1, l2⟩ := live j ej hj
      rw [upd_other _ _ _ _ ej]
      exact fun hg' => hfar j g l2 ej l1 hg' hg
    · obtain ⟨l1, l2⟩ := live i e hi
      rw [upd_other _ _ _ _ e] at hg
      by_cases ej : j = id
      · subst ej
        rw [upd_same]
        exact hfar i g l2 e l1 hg
      · obtain ⟨m1, m2⟩ := live j ej hj
        rw [upd_other _ _ _ _ ej]
        exact hr.far i j g hij l2 m2 hg
  base := fun i d g hd hg => by
    by_cases e : i = id
    · subst e; rw [upd_same] at hg; exact hb g hg
    · rw [upd_other _ _ _ _ e] at hg
      cases hgi : gone i with
      | true => rw [h3 i e hgi] at hd; cases hd
      | false => rw [h2 i e hgi] at hd; exact hr.base i d g hd hg
theorem blk_lt {base : Nat → Prop} {σ : Names} {κ : Kw} {h : Heap} (hr : HR base σ κ h) {i : Nat} {d : Chunk} (hd : h i = some d) {g : Nat} (hg : blk (σ i) = some g) : g < κ.w.heap.size := by
  obtain ⟨k, hk⟩ := Chunk.own (hr.at_ i d hd) hg
  exact κ.lt g k hk
/-- a new block, that may turn from cell k on -/
def Kw.new (κ : Kw) (o : Obj) (k : Option Nat) : Kw where
  w := κ.w.alloc o
  own := fun b => if b = κ.w.heap.size then k else κ.own b
  lt := fun b n hb => by
    simp only [World.size_alloc]
    split at hb
    · omega
    · have := κ.lt b n hb; omega
theorem Kw.new_le (κ : Kw) (o : Obj) (k : Option Nat) : κ.le (κ.new o k) where
  os := rfl
  tape := rfl
  output := rfl
  size := by simp [Kw.new]
  still := fun b hb ho => ⟨by simp [Kw.new, Nat.ne_of_lt hb, ho], heap_alloc_old _ _ hb⟩
  grow := fun b n ho => by
    have hb := κ.lt b n ho
    refine ⟨fun k' hk' => ?_, fun j u _ hu => ?_⟩
    · simp only [Kw.new, if_neg (Nat.ne_of_lt hb)] at hk'
      rw [ho] at hk'; cases hk'; exact Nat.le_refl _
    · simp only [World.cell?, Kw.new] at hu ⊢
      rw [heap_alloc_old _ _ hb]; exact hu
theorem Kw.new_old (κ : Kw) (o : Obj) (k : Option Nat) (b : Nat) (hb : b < κ.w.heap.size) : (κ.new o k).own b = κ.own b ∧ (κ.new o k).w.heap[b]? = κ.w.heap[b]? :=
  ⟨by simp [Kw.new, Nat.ne_of_lt hb], heap_alloc_old _ _ hb⟩
theorem Kw.new_at (κ : Kw) (o : Obj) (k : Option Nat) : (κ.new o k).w.heap[κ.w.heap.size]? = some o ∧ (κ.new o k).own κ.w.heap.size = k := ⟨heap_alloc_new _ _, by simp [Kw.new]⟩
section
variable {P : Program} {nid : Nat} {o : Oper} {ρ : Operand → AV} {h : Heap}
/-- an operation that makes one new block, which may not turn -/
theorem Valid.fresh (A : AV) (hs : A.sup = [])
    (hrun : ∀ σ (κ : Kw) (a : Act), (∀ x ∈ o.op.operands, (ρ x).p σ κ (a.eval x)) → ∃ v κ', (execOp a.eval o).run P κ.w = .ok (.value v) κ'.w ∧ κ.le κ' ∧ (∀ b, b < κ.w.heap.size → κ'.own b = κ.own b ∧ κ'.w.heap[b]? = κ.w.heap[b]?) ∧ A.p σ κ' v) : Valid P nid o ρ h ⟨A, [], []⟩ where
  run := fun base σ κ h' a next Q hops _ hr hb _ _ hk => by
    obtain ⟨v, κ', hv, hle, hold, hA⟩ := hrun σ κ a hops
    unfold Oper.wp
    rw [hv]
    exact hk v σ κ' hle (fun b hb' => hold b (hb b hb')) (fun _ _ => rfl) hA (hr.grow hle hold)
  sup := fun U _ _ => ⟨nosup hs, fun i c hc => by cases hc⟩
  wr := fun x hx => by cases hx
theorem rd_new (κ : Kw) (cs : List Value) (t : TypeId) : Rd (κ.new (.cells cs.toArray t) none) ⟨κ.w.heap.size, 0, none⟩ cs := fun j u hj => by
  refine ⟨rfl, ?_, fun k hk => ?_⟩
  · have := (Kw.new_at κ (.cells cs.toArray t) none).1
    simp only [World.cell?, this]
    simpa using hj
  · rw [(Kw.new_at κ (.cells cs.toArray t) none).2] at hk; cases hk
/-- a slice literal -/
theorem Valid.buildslice {t el : TypeId} {n e : Nat} {parts : Array (Nat × Operand)} (vals : List (Nat × Value)) (cs : List Value) (ho : o.op = .buildSlice t n parts)
    (hp : parts.toList.map (fun x => (x.1, ρ x.2)) = vals.map (fun x => (x.1, Is x.2)))
    (hrun : ∀ w : World, (Instr.buildSlice t n vals.toArray).run P w = .ok (.slice (some ⟨w.heap.size, 0, none⟩) n n) (w.alloc (.cells cs.toArray el))) (hl : cs.length = n * e) (hn : n ≤ maxLen) :
    Valid P nid o ρ h ⟨Sl e n cs, [], []⟩ :=
  .fresh _ rfl fun σ κ a hops => by
    have hv : (parts.map fun x => (x.1, a.eval x.2)) = vals.toArray := by
      apply Array.ext'
      rw [Array.toList_map]
      have key : ∀ (ps : List (Nat × Operand)) (vs : List (Nat × Value)), (∀ x ∈ ps, (ρ x.2).p σ κ (a.eval x.2)) → ps.map (fun x => (x.1, ρ x.2)) = vs.map (fun x => (x.1, Is x.2)) → ps.map (fun x => (x.1, a.eval x.2)) = vs := by
        intro ps
        induction ps with
        | nil => intro vs _ h; cases vs with
          | nil => rfl
          | cons _ _ => cases h
        | cons p ps ih =>
          intro vs h1 h2
          cases vs with
          | nil => cases h2
          | cons v vs =>
            simp only [List.map_cons, List.cons.injEq, Prod.mk.injEq] at h2 ⊢
            refine ⟨?_, ih vs (fun x hx => h1 x (by simp [hx])) h2.2⟩
            have h3 := h1 p (by simp)
            rw [h2.1.2] at h3
            have h3 : a.eval p.2 = v.2 := h3
            rw [h3, h2.1.1]
      exact key parts.toList vals (fun x hx => hops x.2 (by rw [ho]; simp [Op.operands]; exact ⟨x.1, by simpa using hx⟩)) hp
    refine ⟨_, κ.new (.cells cs.toArray el) none, ?_, κ.new_le _ _, fun b hb => κ.new_old _ _ b hb, ⟨hl, .inr ⟨⟨κ.w.heap.size, 0, none⟩, n, rfl, Nat.le_refl _, hn, rd_new κ cs el⟩⟩⟩
    unfold execOp
    rw [ho]
    simp only [hv, hrun, Sem.run_bind, Result.andThen_ok, Sem.run_pure]
    rfl
/-- a struct of known parts -/
theorem Valid.build {t : TypeId} {parts : Array (Nat × Operand)} (vals : List (Nat × Value)) (cs : List Value) (ho : o.op = .build t parts)
    (hp : parts.toList.map (fun x => (x.1, ρ x.2)) = vals.map (fun x => (x.1, Is x.2)))
    (hrun : ∀ w : World, (Instr.build t vals.toArray).run P w = .ok (.agg cs.toArray) w) : Valid P nid o ρ h ⟨Agg (cs.map Is), [], []⟩ :=
  .quiet _ (fun s hs => by
    have : ∀ l : List Value, (l.map Is).flatMap AV.sup = [] := fun l => by induction l <;> simp_all [Is]
    have hs' : s ∈ (cs.map Is).flatMap AV.sup := hs
    rw [this] at hs'; cases hs') fun σ κ a hops => by
    have hv : (parts.map fun x => (x.1, a.eval x.2)) = vals.toArray := by
      apply Array.ext'
      rw [Array.toList_map]
      have key : ∀ (ps : List (Nat × Operand)) (vs : List (Nat × Value)), (∀ x ∈ ps, (ρ x.2).p σ κ (a.eval x.2)) → ps.map (fun x => (x.1, ρ x.2)) = vs.map (fun x => (x.1, Is x.2)) → ps.map (fun x => (x.1, a.eval x.2)) = vs := by
        intro ps
        induction ps with
        | nil => intro vs _ h; cases vs with
          | nil => rfl
          | cons _ _ => cases h
        | cons p ps ih =>
          intro vs h1 h2
          cases vs with
          | nil => cases h2
          | cons v vs =>
            simp only [List.map_cons, List.cons.injEq, Prod.mk.injEq] at h2 ⊢
            refine ⟨?_, ih vs (fun x hx => h1 x (by simp [hx])) h2.2⟩
            have h3 := h1 p (by simp)
            rw [h2.1.2] at h3
            have h3 : a.eval p.2 = v.2 := h3
            rw [h3, h2.1.1]
      exact key parts.toList vals (fun x hx => hops x.2 (by rw [ho]; simp [Op.operands]; exact ⟨x.1, by simpa using hx⟩)) hp
    refine ⟨.agg cs.toArray, ?_, cs, rfl, ?_⟩
    · unfold execOp
      rw [ho]
      simp only [hv, hrun, Sem.run_bind, Result.andThen_ok, Sem.run_pure]
    · have : ∀ l : List Value, All2 σ κ (l.map Is) l := fun l => by
        induction l with
        | nil => trivial
        | cons v l ih => exact ⟨rfl, ih⟩
      exact this cs
/-- a variable of the call's own: of known cells -/
theorem Valid.newvar {t : TypeId} (cs : List AV) (hcs : ∀ s ∈ cs.flatMap AV.sup, ∃ x ∈ o.op.operands, s ∈ (ρ x).sup)
    (hrun : ∀ σ (κ : Kw) (a : Act), (∀ x ∈ o.op.operands, (ρ x).p σ κ (a.eval x)) → ∃ us : List Value, All2 σ κ cs us ∧ (execOp a.eval o).run P κ.w = .ok (.value (.pointer (some ⟨κ.w.heap.size, 0, none⟩))) (κ.w.alloc (.cells us.toArray t))) :
    Valid P nid o ρ h ⟨Ptr (8 * nid) 0, [], [(8 * nid, some (.var t cs))]⟩ where
  run := fun base σ κ h' a next Q hops _ hr hb hsn hfr hk => by
    obtain ⟨us, hall, hv⟩ := hrun σ κ a hops
    have hid : 8 * nid / 8 = nid := by omega
    have hnone : h' (8 * nid) = none := by
      cases hx : h' (8 * nid) with
      | none => rfl
      | some c => exact absurd hid (hfr _ _ hx).1
    unfold Oper.wp
    rw [hv]
    have hall' : All2 (upd σ (8 * nid) (.pointer (some ⟨κ.w.heap.size, 0, none⟩))) (κ.new (.cells us.toArray t) (some 0)) cs us := by
      exact (hall.mono (κ.new_le _ _)).loc (fun A hA i hi => upd_other _ _ _ _ (fun e => by
        obtain ⟨x, hx, hxs⟩ := hcs i (sup_mem hA hi)
        exact hsn x hx i hxs (by omega)))
    exact hk _ (upd σ (8 * nid) (.pointer (some ⟨κ.w.heap.size, 0, none⟩))) (κ.new (.cells us.toArray t) (some 0)) (κ.new_le _ _) (fun b hb' => κ.new_old _ _ b (hb b hb')) (fun i hi => upd_other _ _ _ _ (fun e => hi (by omega)))
      ⟨κ.w.heap.size, upd_same _ _ _, rfl⟩
      (hr.set (κ.new_le _ _) (8 * nid) _ (.var t cs) (fun _ => false)
        (fun i d hd _ _ g hg => by have := κ.new_old (.cells us.toArray t) (some 0) g (blk_lt hr hd hg); exact ⟨this.2, this.1⟩)
        ⟨κ.w.heap.size, us.toArray, rfl, (κ.new_at _ _).1, by simpa using hall', (κ.new_at _ _).2⟩
        (fun i g hi _ _ hg he => by
          cases hx : h' i with
          | none => exact hi hx
          | some d =>
            have := blk_lt hr hx hg
            simp only [blk, Option.some.injEq] at he; omega)
        (fun g hg hbg => by simp only [blk, Option.some.injEq] at hg; have := hb g hbg; omega)
        (fun i d hd _ _ j hj => upd_other _ _ _ _ (fun e => (hfr i d hd).2 j hj (by omega))) _ (upd_same _ _ _) (fun i hi _ => upd_other _ _ _ _ hi) (fun i _ hf => by cases hf))
  sup := fun U hU _ => ⟨fun s hs => .inr (by have : s ∈ [8 * nid] := hs; simp at this; omega), fun i c hc s hs => by
    simp only [List.mem_singleton, Prod.mk.injEq, Option.some.injEq] at hc
    obtain ⟨_, rfl⟩ := hc
    obtain ⟨x, hx, hxs⟩ := hcs s hs
    exact .inl (hU x hx s hxs)⟩
  wr := fun x hx => by simp at hx; subst hx; exact .inr (by simp)
theorem Valid.alloc {t : TypeId} {z : Value} (cs : List Value) (ho : o.op = .alloc t) (hz : ∀ w, (zeroValue t).run P w = .ok z w) (hc : z.cells.toList = cs) :
    Valid P nid o ρ h ⟨Ptr (8 * nid) 0, [], [(8 * nid, some (.var t (cs.map Is)))]⟩ :=
  .newvar (cs.map Is) (fun s hs => by
    have : ∀ l : List Value, (l.map Is).flatMap AV.sup = [] := fun l => by induction l <;> simp_all [Is]
    rw [this] at hs; cases hs) fun σ κ a hops => by
    refine ⟨cs, ?_, ?_⟩
    · have : ∀ l : List Value, All2 σ κ (l.map Is) l := fun l => by
        induction l with
        | nil => trivial
        | cons v l ih => exact ⟨rfl, ih⟩
      exact this cs
    · have e : z.cells = cs.toArray := by rw [← hc]
      unfold execOp
      rw [ho]
      simp only [Instr.alloc, Sem.run_bind, hz, Result.andThen_ok, newVar, newRow, Sem.run_pure, newObj, Sem.run, e]
      rfl
theorem Valid.boxagg {t : TypeId} {x : Operand} {l : List AV} (ho : o.op = .box t x) (hx : ρ x = Agg l) : Valid P nid o ρ h ⟨Ptr (8 * nid) 0, [], [(8 * nid, some (.var t l))]⟩ :=
  .newvar l (fun s hs => ⟨x, by rw [ho]; simp [Op.operands], by rw [hx]; exact hs⟩) fun σ κ a hops => by
    have h1 := hops x (by rw [ho]; simp [Op.operands])
    rw [hx] at h1
    obtain ⟨us, hu, hall⟩ := h1
    refine ⟨us, hall, ?_⟩
    unfold execOp
    rw [ho]
    simp only [hu, Instr.box, newVar, newRow, Value.cells, Sem.run_bind, Sem.run_pure, Result.andThen_ok, newObj, Sem.run]
    rfl
/-- a value of one cell -/
def One (A : AV) : Prop := ∀ σ κ v, A.p σ κ v → v.oneCell' = true ∧ v.cells = #[v]
theorem One.is {A : AV} {v : Value} (h : A = Is v) (h1 : v.oneCell' = true) (h2 : v.cells = #[v]) : One A := fun σ κ u hu => by
  subst h
  have hu : u = v := hu
  rw [hu]; exact ⟨h1, h2⟩
theorem One.sl {A : AV} {e n : Nat} {xs : List Value} (h : Reads A e n xs) : One A := fun σ κ u hu => by
  obtain ⟨a, c, rfl⟩ := (h σ κ u hu).form
  exact ⟨rfl, rfl⟩
theorem One.ptr {A : AV} {id off : Nat} (h : A = Ptr id off) : One A := fun σ κ u hu => by
  subst h
  obtain ⟨b, _, rfl⟩ := hu
  exact ⟨rfl, rfl⟩
theorem One.elt {A : AV} {xs : List Value} (h : A = Elt xs) : One A := fun σ κ u hu => by
  subst h
  obtain ⟨b, rfl, _⟩ := hu
  exact ⟨rfl, rfl⟩
theorem Valid.box {t : TypeId} {x : Operand} (ho : o.op = .box t x) (hx : One (ρ x)) : Valid P nid o ρ h ⟨Ptr (8 * nid) 0, [], [(8 * nid, some (.var t [ρ x]))]⟩ :=
  .newvar [ρ x] (fun s hs => ⟨x, by rw [ho]; simp [Op.operands], by simpa using hs⟩) fun σ κ a hops => by
    have h1 := hops x (by rw [ho]; simp [Op.operands])
    obtain ⟨_, hu⟩ := hx _ _ _ h1
    refine ⟨[a.eval x], ⟨h1, trivial⟩, ?_⟩
    unfold execOp
    rw [ho]
    simp only [hu, Instr.box, newVar, newRow, Sem.run_bind, Sem.run_pure, Result.andThen_ok, newObj, Sem.run]
    rfl
theorem all2_get {σ : Names} {κ : Kw} : ∀ {l : List AV} {us : List Value} {i : Nat} {A : AV}, All2 σ κ l us → l[i]? = some A → ∃ v, us[i]? = some v ∧ A.p σ κ v
  | [], _, _, _, _, h => by simp at h
  | B :: l, [], _, _, h, _ => h.elim
  | B :: l, u :: us, 0, A, h1, h2 => by simp at h2; subst h2; exact ⟨u, rfl, h1.1⟩
  | B :: l, u :: us, i + 1, A, h1, h2 => by simpa using all2_get h1.2 (by simpa using h2)
theorem all2_drop {σ : Names} {κ : Kw} : ∀ {l : List AV} {us : List Value} (n : Nat), All2 σ κ l us → All2 σ κ (l.drop n) (us.drop n)
  | _, _, 0, h => by simpa using h
  | [], [], _ + 1, h => by simpa using h
  | _ :: _, _ :: _, n + 1, h => by simpa using all2_drop n h.2
  | [], _ :: _, _, h => h.elim
  | _ :: _, [], _, h => h.elim
theorem all2_take {σ : Names} {κ : Kw} : ∀ {l : List AV} {us : List Value} (n : Nat), All2 σ κ l us → All2 σ κ (l.take n) (us.take n)
  | _, _, 0, h => by simp [All2]
  | [], [], _ + 1, h => by simpa using h
  | _ :: _, _ :: _, n + 1, h => ⟨h.1, all2_take n h.2⟩
  | [], _ :: _, _, h => h.elim
  | _ :: _, [], _, h => h.elim
theorem all2_append {σ : Names} {κ : Kw} : ∀ {l m : List AV} {us vs : List Value}, All2 σ κ l us → All2 σ κ m vs → All2 σ κ (l ++ m) (us ++ vs)
  | [], _, [], _, _, h => h
  | _ :: _, _, _ :: _, _, h, h' => ⟨h.1, all2_append h.2 h'⟩
  | [], _, _ :: _, _, h, _ => h.elim
  | _ :: _, _, [], _, h, _ => h.elim
/-- a variable's cell -/
theorem Valid.load {t t0 : TypeId} {x : Operand} {id off : Nat} {cs : List AV} (A : AV) (ho : o.op = .load t x) (hag : ∀ w, (isAgg t).run P w = .ok false w) (hx : ρ x = Ptr id off) (hh : h id = some (.var t0 cs)) (hA : cs[off]? = some A) : Valid P nid o ρ h ⟨A, [id], []⟩ where
  run := fun base σ κ h' a next Q hops hrd hr hb _ _ hk => by
    have h1 := hops x (by rw [ho]; simp [Op.operands])
    rw [hx] at h1
    obtain ⟨b, hσ, hu⟩ := h1
    have h2 := hr.at_ id (.var t0 cs) (by rw [hrd id (by simp), hh])
    rw [hσ] at h2
    obtain ⟨b', us, e, hheap, hall, _⟩ := h2
    cases e
    obtain ⟨v, hv, hAv⟩ := all2_get hall hA
    have hrun : (execOp a.eval o).run P κ.w = .ok (.value v) κ.w := by
      have hc : κ.w.cell? ⟨b, off, none⟩ = some v := by rw [cell_of_row _ _ _ _ _ _ hheap]; simpa using hv
      unfold execOp
      rw [ho]
      simp only [hu, Instr.loadAt, Instr.sureAddr, Sem.run_bind, Sem.run_pure, Result.andThen_ok, loadVar, hag]
      simp [Go.load, Sem.run, hc, Result.andThen]
    unfold Oper.wp
    rw [hrun]
    exact hk v σ κ (Kw.le_refl κ) (fun _ _ => ⟨rfl, rfl⟩) (fun _ _ => rfl) hAv hr
  sup := fun U _ hU => ⟨fun s hs => .inl ((hU id (by simp) _ hh).2 s (sup_mem (List.mem_of_getElem? hA) hs)), fun i c hc => by cases hc⟩
  wr := fun x hx => by cases hx
/-- a variable, or a part of it -/
theorem Valid.loadagg {t t0 : TypeId} {x : Operand} {id off n : Nat} {cs : List AV} (ho : o.op = .load t x) (hag : ∀ w, (isAgg t).run P w = .ok true w) (hsz : ∀ w, (sizeOf t).run P w = .ok n w) (hx : ρ x = Ptr id off) (hh : h id = some (.var t0 cs)) (hn : off + n ≤ cs.length) :
    Valid P nid o ρ h ⟨Agg ((cs.drop off).take n), [id], []⟩ where
  run := fun base σ κ h' a next Q hops hrd hr hb _ _ hk => by
    have h1 := hops x (by rw [ho]; simp [Op.operands])
    rw [hx] at h1
    obtain ⟨b, hσ, hu⟩ := h1
    have h2 := hr.at_ id (.var t0 cs) (by rw [hrd id (by simp), hh])
    rw [hσ] at h2
    obtain ⟨b', us, e, hheap, hall, _⟩ := h2
    cases e
    have hus := hall.length
    have hrun : (execOp a.eval o).run P κ.w = .ok (.value (.agg ((us.toList.drop off).take n).toArray)) κ.w := by
      have hc := run_loadCells_list (P := P) (w := κ.w) ⟨b, off, none⟩ ((us.toList.drop off).take n) (fun j v hj => by
        rw [add_eq rfl, cell_of_row _ _ _ _ _ _ hheap]
        rw [List.getElem?_take] at hj
        split at hj
        · rw [List.getElem?_drop] at hj; simpa using hj
        · cases hj)
      have hl : ((us.toList.drop off).take n).length = n := by rw [List.length_take, List.length_drop]; omega
      rw [hl] at hc
      unfold execOp
      rw [ho]
      simp only [hu, Instr.loadAt, Instr.sureAddr, Sem.run_bind, Sem.run_pure, Result.andThen_ok, loadVar, hag, if_true, hsz, hc]
    unfold Oper.wp
    rw [hrun]
    exact hk _ σ κ (Kw.le_refl κ) (fun _ _ => ⟨rfl, rfl⟩) (fun _ _ => rfl) ⟨_, rfl, all2_take n (all2_drop off hall)⟩ hr
  sup := fun U _ hU => ⟨fun s hs => .inl ((hU id (by simp) _ hh).2 s (by
    obtain ⟨A, hA, hs⟩ := List.mem_flatMap.1 (show s ∈ ((cs.drop off).take n).flatMap AV.sup from hs)
    exact sup_mem (List.mem_of_mem_drop (List.mem_of_mem_take hA)) hs)), fun i c hc => by cases hc⟩
  wr := fun x hx => by cases hx
theorem Valid.fieldaddr {t : TypeId} {x : Operand} {f id off off' : Nat} (ho : o.op = .fieldAddr t x f) (hx : ρ x = Ptr id off) (hf : ∀ (b : Nat) (w : World), (Instr.fieldAt t (.pointer (some ⟨b, off, none⟩)) f).run P w = .ok (.pointer (some ⟨b, off', none⟩)) w) : Valid P nid o ρ h ⟨Ptr id off', [], []⟩ :=
  .quiet _ (fun s hs => ⟨x, by rw [ho]; simp [Op.operands], by rw [hx]; exact hs⟩) fun σ κ a hops => by
    have h1 := hops x (by rw [ho]; simp [Op.operands])
    rw [hx] at h1
    obtain ⟨b, hσ, hu⟩ := h1
    refine ⟨_, ?_, b, hσ, rfl⟩
    unfold execOp
    rw [ho]
    simp only [hu, hf, Sem.run_bind, Result.andThen_ok, Sem.run_pure]
/-- a field of a value -/
theorem Valid.field {t : TypeId} {x : Operand} {f off : Nat} {l : List AV} (A : AV) (ho : o.op = .field t x f) (hx : ρ x = Agg l) (hA : l[off]? = some A) (hf : ∀ (us : List Value) (v : Value) (w : World), us[off]? = some v → us.length = l.length → (Instr.field t (.agg us.toArray) f).run P w = .ok v w) : Valid P nid o ρ h ⟨A, [], []⟩ :=
  .quiet _ (fun s hs => ⟨x, by rw [ho]; simp [Op.operands], by rw [hx]; exact sup_mem (List.mem_of_getElem? hA) hs⟩) fun σ κ a hops => by
    have h1 := hops x (by rw [ho]; simp [Op.operands])
    rw [hx] at h1
    obtain ⟨us, hu, hall⟩ := h1
    obtain ⟨v, hv, hAv⟩ := all2_get hall hA
    refine ⟨v, ?_, hAv⟩
    unfold execOp
    rw [ho]
    simp only [hu, hf us v κ.w hv hall.length, Sem.run_bind, Result.andThen_ok, Sem.run_pure]
/-- a store of these cells -/
theorem Valid.storeL {t t0 : TypeId} {x y : Operand} {id off : Nat} {cs new : List AV} (ho : o.op = .store t x y) (hsz : ∀ w, (sizeOf t).run P w = .ok new.length w) (hx : ρ x = Ptr id off) (hh : h id = some (.var t0 cs)) (hn : off + new.length ≤ cs.length)
    (hy : ∀ σ κ v, (ρ y).p σ κ v → ∃ us : List Value, v.cells.toList = us ∧ All2 σ κ new us ∧ ∀ u ∈ us, u.oneCell' = true) (hs0 : ∀ s ∈ new.flatMap AV.sup, s ∈ (ρ y).sup) :
    Valid P nid o ρ h ⟨Is undef, [id], [(id, some (.var t0 (cs.take off ++ new ++ cs.drop (off + new.length))))]⟩ where
  run := fun base σ κ h' a next Q hops hrd hr hb _ _ hk => by
    have h1 := hops x (by rw [ho]; simp [Op.operands])
    rw [hx] at h1
    obtain ⟨b, hσ, hu⟩ := h1
    have hid : h' id = some (.var t0 cs) := by rw [hrd id (by simp), hh]
    have h2 := hr.at_ id (.var t0 cs) hid
    rw [hσ] at h2
    obtain ⟨b', us, e, hheap, hall, hown⟩ := h2
    cases e
    have hus := hall.length
    obtain ⟨vs, hvs, hnew, hone⟩ := hy σ κ _ (hops y (by rw [ho]; simp [Op.operands]))
    have hvl := hnew.length
    have hst := run_storeCells_at P b off t0 vs 0 us κ.w hheap (by simp only [Array.length_toList] at hus; omega) hone
    simp only [Nat.add_zero] at hst
    have hsize : (a.eval y).cells.size = new.length := by rw [← hvl, ← hvs]; simp
    have hlt : b < κ.w.heap.size := κ.lt b 0 hown
    have hbb : ¬ base b := hr.base id _ b hid (by rw [hσ]; rfl)
    let κ' : Kw := ⟨κ.w.setRow b (us.toList.take off ++ vs ++ us.toList.drop (off + vs.length)).toArray, κ.own, fun g k hg => by rw [size_setRow]; exact κ.lt g k hg⟩
    have hle : κ.le κ' := ⟨rfl, rfl, rfl, by show κ.w.heap.size ≤ _; rw [size_setRow]; exact Nat.le_refl _,
      fun g _ hg => ⟨hg, setRow_other _ _ _ _ (fun e => by subst e; rw [hown] at hg; cases hg)⟩,
      fun g k hg => ⟨fun k' hk' => by have : κ.own g = some k' := hk'; rw [hg] at this; cases this; exact Nat.le_refl _, fun j u hj hu => by
        have hgb : g ≠ b := fun e => by subst e; rw [hown] at hg; cases hg; omega
        simp only [World.cell?] at hu ⊢
        rw [show κ'.w.heap[g]? = κ.w.heap[g]? from setRow_other _ _ _ _ hgb]
        exact hu⟩⟩
    have hrun : (execOp a.eval o).run P κ.w = .ok .skip κ'.w := by
      unfold execOp
      rw [ho]
      simp only [hu, Instr.storeAt, Instr.sureAddr, Sem.run_bind, Sem.run_pure, Result.andThen_ok, storeVar, hsz, hsize, ne_eq, not_true_eq_false, if_false, hvs, hst]
      rfl
    unfold Oper.wp
    rw [hrun]
    have hupd : upd σ id (σ id) = σ := by
      funext i
      by_cases e : i = id
      · subst e; rw [upd_same]
      · rw [upd_other _ _ _ _ e]
    have hres := hr.set hle id (σ id) (.var t0 (cs.take off ++ new ++ cs.drop (off + new.length))) (fun _ => false)
        (fun i d hd hne _ g hg => ⟨setRow_other _ _ _ _ (fun e => by subst e; exact hr.far i id g hne (by rw [hd]; simp) (by rw [hid]; simp) hg (by rw [hσ]; rfl)), rfl⟩)
        (by
          rw [hupd]
          refine ⟨b, _, hσ, setRow_heap _ _ _ _ _ _ hheap, ?_, hown⟩
          have := all2_append (all2_append (all2_take off hall) hnew) (all2_drop (off + new.length) hall)
          rw [← hvl] at this ⊢
          exact this.mono hle)
        (fun i g hi hne _ hg => by
          rw [hσ]
          exact fun e => hr.far i id g hne hi (by rw [hid]; simp) hg (by rw [hσ]; exact e))
        (fun g hg => hr.base id _ g hid hg)
        (fun i d hd hne _ j hj => by rw [hupd]) (updl h' [(id, some (.var t0 (cs.take off ++ new ++ cs.drop (off + new.length))))]) (upd_same _ _ _) (fun i hi _ => upd_other _ _ _ _ hi) (fun i _ hf => by cases hf)
    rw [hupd] at hres
    exact hk undef σ κ' hle (fun g hg => ⟨rfl, setRow_other _ _ _ _ (fun e => hbb (e ▸ hg))⟩) (fun _ _ => rfl) rfl hres
  sup := fun U hV hU => ⟨nosup rfl, fun i c hc s hs => by
    simp only [List.mem_singleton, Prod.mk.injEq, Option.some.injEq] at hc
    obtain ⟨_, rfl⟩ := hc
    obtain ⟨A, hA, hs⟩ := List.mem_flatMap.1 (show s ∈ (cs.take off ++ new ++ cs.drop (off + new.length)).flatMap AV.sup from hs)
    rcases List.mem_append.1 hA with hA | hA
    · rcases List.mem_append.1 hA with hA | hA
      · exact .inl ((hU id (by simp) _ hh).2 s (sup_mem (List.mem_of_mem_take hA) hs))
      · exact .inl (hV y (by rw [ho]; simp [Op.operands]) s (hs0 s (sup_mem hA hs)))
    · exact .inl ((hU id (by simp) _ hh).2 s (sup_mem (List.mem_of_mem_drop hA) hs))⟩
  wr := fun x hx => by simp at hx; subst hx; exact .inl ⟨by simp, by rw [hh]; simp⟩
theorem Valid.store {t t0 : TypeId} {x y : Operand} {id off : Nat} {cs : List AV} (ho : o.op = .store t x y) (hsz : ∀ w, (sizeOf t).run P w = .ok 1 w) (hx : ρ x = Ptr id off) (hh : h id = some (.var t0 cs)) (hn : off + 1 ≤ cs.length) (hy : One (ρ y)) :
    Valid P nid o ρ h ⟨Is undef, [id], [(id, some (.var t0 (cs.take off ++ [ρ y] ++ cs.drop (off + 1))))]⟩ :=
  .storeL ho hsz hx hh hn (fun σ κ v hv => ⟨[v], by rw [(hy σ κ v hv).2], ⟨hv, trivial⟩, fun u hu => by simp at hu; subst hu; exact (hy σ κ _ hv).1⟩) (fun s hs => by simpa using hs)
def Ones : List AV → Prop
  | [] => True
  | A :: l => One A ∧ Ones l
theorem Ones.one {σ : Names} {κ : Kw} : ∀ {l : List AV} {us : List Value}, Ones l → All2 σ κ l us → ∀ u ∈ us, u.oneCell' = true
  | A :: l, v :: us, ⟨h1, h2⟩, ⟨h3, h4⟩, u, hu => by
    rcases List.mem_cons.1 hu with rfl | hu
    · exact (h1 _ _ _ h3).1
    · exact Ones.one h2 h4 u hu
  | [], [], _, _, u, hu => by cases hu
  | [], _ :: _, _, h, _, _ => h.elim
  | _ :: _, [], _, h, _, _ => h.elim
theorem Valid.storeagg {t t0 : TypeId} {x y : Operand} {id off : Nat} {cs l : List AV} (ho : o.op = .store t x y) (hsz : ∀ w, (sizeOf t).run P w = .ok l.length w) (hx : ρ x = Ptr id off) (hh : h id = some (.var t0 cs)) (hn : off + l.length ≤ cs.length) (hy : ρ y = Agg l) (h1 : Ones l) :
    Valid P nid o ρ h ⟨Is undef, [id], [(id, some (.var t0 (cs.take off ++ l ++ cs.drop (off + l.length))))]⟩ :=
  .storeL ho hsz hx hh hn (fun σ κ v hv => by
    rw [hy] at hv
    obtain ⟨us, rfl, hall⟩ := hv
    exact ⟨us, rfl, hall, h1.one hall⟩) (fun s hs => by rw [hy]; exact hs)
/-! ### append -/
theorem Kw.drew_le (κ : Kw) : κ.le ⟨κ.w.drew, κ.own, κ.lt⟩ := ⟨rfl, rfl, rfl, Nat.le_refl _, fun _ _ h => ⟨h, rfl⟩, fun b k h => ⟨fun k' h' => by have : κ.own b = some k' := h'; rw [h] at this; cases this; exact Nat.le_refl _, fun _ _ _ h => h⟩⟩
/-- what append comes to: a row of the call's own, grown where it was or laid anew -/
theorem append_step (t ty el : TypeId) (i : TypeInfo) (z : Value) (e bytes : Nat) (ht : P.underlying t = some (.slice el)) (hi : P.info? el = some i) (hz : i.zero = some z) (hsize : i.size = e) (hby : i.bytes = bytes) (hzs : z.cells.size = e) (_hsz : 0 < e)
    {κ : Kw} {v : Value} {n : Nat} {xs : List Value} (hown : κ.w.ownsRow 0 el e v n xs) (hg : ∀ g, blk v = some g → κ.own g = some (n * e)) {u : Value} {m : Nat} {ys : List Value} (hu : SlP κ e m ys u) (h1 : ∀ y ∈ ys, y.oneCell' = true) (hm : n + m ≤ maxLen) (hb : (n + m) * bytes ≤ 140737488355328) :
    ∃ v' κ', (Builtin.append_ #[t, t] ty #[v, u]).run P κ.w = .ok v' κ'.w ∧ κ.le κ' ∧ κ'.w.ownsRow 0 el e v' (n + m) (xs ++ ys) ∧ (∀ g, blk v' = some g → κ'.own g = some ((n + m) * e)) ∧
      (∀ b, b < κ.w.heap.size → blk v ≠ some b → κ'.own b = κ.own b ∧ κ'.w.heap[b]? = κ.w.heap[b]?) ∧ (∀ g, blk v' = some g → blk v = some g ∨ g = κ.w.heap.size) := by
  have hlen : (xs ++ ys).length = (n + m) * e := by rw [List.length_append, hown.1, hu.1, Nat.add_mul]
  have laid : ∀ (cur : Array Value) (cap : Nat), cap ≤ maxLen → n + m ≤ cap → cur.size = cap * e → cur.toList.take ((n + m) * e) = xs ++ ys →
      ∃ κ' : Kw, κ'.w = κ.w.drew.alloc (.cells cur el) ∧ κ.le κ' ∧ κ'.w.ownsRow 0 el e (.slice (some ⟨κ.w.heap.size, 0, none⟩) (n + m) cap) (n + m) (xs ++ ys) ∧ κ'.own κ.w.heap.size = some ((n + m) * e) ∧ (∀ b, b < κ.w.heap.size → κ'.own b = κ.own b ∧ κ'.w.heap[b]? = κ.w.heap[b]?) := by
    intro cur cap h2 h3 h4 h5
    let κd : Kw := ⟨κ.w.drew, κ.own, κ.lt⟩
    refine ⟨κd.new (.cells cur el) (some ((n + m) * e)), rfl, Kw.le_trans κ.drew_le (κd.new_le _ _), ⟨hlen, .inr ⟨κ.w.heap.size, cap, cur, rfl, Nat.zero_le _, (κd.new_at _ _).1, h3, h2, h4, h5⟩⟩, (κd.new_at _ _).2, fun b hb => κd.new_old _ _ b hb⟩
  obtain ⟨hul, ⟨rfl, rfl⟩ | ⟨ad, c, rfl, hc1, hc2, hrd⟩⟩ := hu
  · have hys : ys = [] := List.eq_nil_of_length_eq_zero (by simpa using hul)
    subst hys
    refine ⟨v, κ, ?_, Kw.le_refl κ, by simpa using hown, by simpa using hg, fun _ _ _ => ⟨rfl, rfl⟩, fun g hg => .inl hg⟩
    rcases hown.2 with ⟨rfl, rfl⟩ | ⟨g, cap, cur, rfl, _, _, hnc, _⟩
    · simp [Builtin.append_, run_underlying ht, sizeOf, typeInfo, hi, Builtin.lenOf, Builtin.firstCells]
    · simp [Builtin.append_, run_underlying ht, sizeOf, typeInfo, hi, Builtin.lenOf, Builtin.firstCells, hnc, storeCells]
  · have hnews : ∀ j y, ys[j]? = some y → κ.w.cell? (ad.add j) = some y := fun j y hj => by
      obtain ⟨s1, s2, _⟩ := hrd j y hj
      rw [add_eq s1]; exact s2
    have hul' : ys.length = m * i.size := by rw [hsize]; exact hul
    have hm' : ((n + m : Nat) : Int) ≤ 9223372036854775807 := by unfold maxLen at hm; omega
    rcases hown.2 with ⟨rfl, rfl⟩ | ⟨g, cap, cur, rfl, _, hheap, hnc, hcm, hcs, htake⟩
    · have hxs : xs = [] := List.eq_nil_of_length_eq_zero (by simpa using hown.1)
      subst hxs
      by_cases hm0 : m = 0
      · subst hm0
        have hys : ys = [] := List.eq_nil_of_length_eq_zero (by simpa using hul)
        subst hys
        refine ⟨.slice none 0 0, κ, ?_, Kw.le_refl κ, World.ownsRow_nil κ.w 0 el e, (fun g hg => by cases hg), fun _ _ _ => ⟨rfl, rfl⟩, fun g hg => by cases hg⟩
        simp [Builtin.append_, run_underlying ht, sizeOf, typeInfo, hi, Builtin.lenOf, Builtin.firstCells, loadCells, loadCellsFrom]
      · have hr := run_append_nil (P := P) κ.w t ty el i z ht hi hz ad m c ys hul' hnews (by omega) (by unfold maxLen at hm; omega) (by rw [hby]; simp only [Nat.zero_add] at hb; omega)
        have hge := grownCap_ge κ.w m 0 el
        obtain ⟨κ', hw, hle, how, hon, hold⟩ := laid (ys.toArray ++ Builtin.zeroCells z.cells (grownCap κ.w m 0 el - m)) (grownCap κ.w m 0 el) (grownCap_le_maxLen κ.w m 0 el (by simpa using hm)) (by omega)
          (by simp only [Array.size_append, List.size_toArray, size_zeroCells, hzs, hul, ← Nat.add_mul]; congr 1; omega)
          (by simp only [Array.toList_append]; rw [← hlen]; simp)
        refine ⟨_, κ', by rw [hw]; exact hr, hle, by simpa using how, fun g hg => ?_, fun b hb _ => hold b hb, fun g hg => ?_⟩
        · simp only [blk, Option.some.injEq] at hg; subst hg; exact hon
        · simp only [blk, Option.some.injEq] at hg; exact .inr hg.symm
    · by_cases hroom : n + m ≤ cap
      · have hfit : n * i.size + ys.length ≤ cur.size := by rw [hul', hcs, hsize, ← Nat.add_mul]; exact Nat.mul_le_mul_right _ hroom
        have hr := run_append_room (P := P) κ.w t ty el i ht hi g n cap cur hheap ad m c ys hul' hnews h1 hroom hfit
        have hgo : κ.own g = some (n * e) := hg g rfl
        let κ' : Kw := ⟨κ.w.setRow g (cur.toList.take (n * i.size) ++ ys ++ cur.toList.drop (n * i.size + ys.length)).toArray, fun b => if b = g then some ((n + m) * e) else κ.own b, fun b k hb => by
          rw [size_setRow]
          split at hb
          · rename_i e; subst e; exact κ.lt b _ hgo
          · exact κ.lt b k hb⟩
        have hcells : κ'.w.heap[g]? = some (.cells (cur.toList.take (n * i.size) ++ ys ++ cur.toList.drop (n * i.size + ys.length)).toArray el (0, 0)) := setRow_heap _ _ _ _ _ _ hheap
        refine ⟨_, κ', hr, ⟨rfl, rfl, rfl, by show κ.w.heap.size ≤ _; rw [size_setRow]; exact Nat.le_refl _, fun b _ hb => ?_, fun b k hb => ?_⟩, ⟨hlen, .inr ⟨g, cap, _, rfl, Nat.zero_le _, hcells, hroom, hcm, ?_, ?_⟩⟩, fun b hb => ?_, fun b _ hne => ?_, fun b hb => .inl hb⟩
        · have hbg : b ≠ g := fun e => by subst e; rw [hgo] at hb; cases hb
          exact ⟨by simp [κ', hbg, hb], setRow_other _ _ _ _ hbg⟩
        · by_cases hbg : b = g
          · subst hbg
            rw [hgo] at hb; cases hb
            refine ⟨fun k' hk' => ?_, fun j u hj hu => ?_⟩
            · simp only [κ', if_pos] at hk'
              cases hk'
              exact Nat.mul_le_mul_right _ (by omega)
            · rw [cell_of_row _ _ _ _ _ _ hheap] at hu
              rw [cell_of_row _ _ _ _ _ _ hcells]
              rw [← hu]
              simp only [List.getElem?_toArray, List.append_assoc]
              rw [List.getElem?_append_left (by rw [List.length_take, Array.length_toList, hsize]; have : n * e ≤ cur.size := by rw [hcs]; exact Nat.mul_le_mul_right _ hnc
                                                omega), List.getElem?_take_of_lt (by rw [hsize]; exact hj)]
              simp
          · refine ⟨fun k' hk' => ?_, fun j u _ hu => ?_⟩
            · simp only [κ', if_neg hbg] at hk'
              rw [hb] at hk'; cases hk'; exact Nat.le_refl _
            · simp only [World.cell?] at hu ⊢
              rw [show κ'.w.heap[b]? = κ.w.heap[b]? from setRow_other _ _ _ _ hbg]
              exact hu
        · simp only [List.size_toArray, List.length_append, List.length_take, List.length_drop, Array.length_toList]
          omega
        · show List.take _ (_ ++ ys ++ _) = _
          rw [hsize, htake, ← hlen]
          exact List.take_left
        · simp only [blk, Option.some.injEq] at hb
          subst hb
          simp [κ']
        · have hbg : b ≠ g := fun e => hne (by rw [e]; rfl)
          exact ⟨by simp [κ', hbg], setRow_other _ _ _ _ hbg⟩
      · have holds : ∀ j u, xs[j]? = some u → κ.w.cell? ((⟨g, 0, none⟩ : Addr).add j) = some u := hown.cells (g := g) rfl
        have hr := run_append_grow (P := P) κ.w t ty el i z ht hi hz ⟨g, 0, none⟩ n cap xs (by rw [hsize]; exact hown.1) holds ad m c ys hul' hnews (by omega) hm' (growslice_fits (by omega) (by rw [hby]; exact hb))
        have hge := grownCap_ge κ.w (n + m) cap el
        obtain ⟨κ', hw, hle, how, hon, hold⟩ := laid (xs.toArray ++ ys.toArray ++ Builtin.zeroCells z.cells (grownCap κ.w (n + m) cap el - (n + m))) (grownCap κ.w (n + m) cap el) (grownCap_le_maxLen κ.w (n + m) cap el hm) hge
          (by simp only [Array.size_append, List.size_toArray, size_zeroCells, hzs, hown.1, hul, ← Nat.add_mul]; congr 1; omega)
          (by simp only [Array.toList_append, List.append_assoc]; rw [← List.append_assoc, ← hlen]; exact List.take_left)
        refine ⟨_, κ', by rw [hw]; exact hr, hle, how, fun b hb => ?_, fun b hb _ => hold b hb, fun b hb => ?_⟩
        · simp only [blk, Option.some.injEq] at hb; subst hb; exact hon
        · simp only [blk, Option.some.injEq] at hb; exact .inr hb.symm
theorem own_sl {κ : Kw} {el : TypeId} {e n : Nat} {v : Value} {xs : List Value} (h : κ.w.ownsRow 0 el e v n xs) (hg : ∀ g, blk v = some g → κ.own g = some (n * e)) : SlP κ e n xs v := by
  obtain ⟨hl, h | ⟨g, cap, cur, rfl, _, hheap, h1, h2, h3, h4⟩⟩ := h
  · exact ⟨hl, .inl h⟩
  · refine ⟨hl, .inr ⟨_, cap, rfl, h1, h2, fun j u hj => ⟨rfl, ?_, fun k hk => ?_⟩⟩⟩
    · rw [cell_of_row _ _ _ _ _ _ hheap]
      rw [← h4, List.getElem?_take] at hj
      split at hj
      · simpa using hj
      · cases hj
    · have := hg g rfl
      rw [this] at hk; cases hk
      have hjl := (List.getElem?_eq_some_iff.1 hj).1
      simp only [Nat.zero_add]; omega
/-- 'append' onto a row of the call's own -/
theorem Valid.append {x y : Operand} {t el : TypeId} {i : TypeInfo} {z : Value} {id e n m bytes : Nat} {xs ys : List Value} (ho : o.op = .call { callee := .builtin .append, args := #[x, y], argTypes := #[t, t] })
    (ht : P.underlying t = some (.slice el)) (hi : P.info? el = some i) (hz : i.zero = some z) (hsize : i.size = e) (hby : i.bytes = bytes) (hzs : z.cells.size = e) (hsz : 0 < e)
    (hx : ρ x = Own id e n xs) (hh : h id = some (.row el e n xs)) (hy : Reads (ρ y) e m ys) (h1 : ∀ u ∈ ys, u.oneCell' = true) (hm : n + m ≤ maxLen) (hb : (n + m) * bytes ≤ 140737488355328) :
    Valid P nid o ρ h ⟨Own (8 * nid) e (n + m) (xs ++ ys), [id], [(id, none), (8 * nid, some (.row el e (n + m) (xs ++ ys)))]⟩ where
  run := fun base σ κ h' a next Q hops hrd hr hbase _ hfr hk => by
    have e1 := hops x (by rw [ho]; simp [Op.operands, Call.operands])
    have e2 := hy σ κ _ (hops y (by rw [ho]; simp [Op.operands, Call.operands]))
    rw [hx] at e1
    have hid : h' id = some (.row el e n xs) := by rw [hrd id (by simp), hh]
    have e3 := hr.at_ id _ hid
    have hid8 : 8 * nid / 8 = nid := by omega
    have hne : id ≠ 8 * nid := fun e => (hfr id _ hid).1 (by rw [e]; exact hid8)
    obtain ⟨v', κ', hrun, hle, how, hon, hold, hv'⟩ := append_step t o.type el i z e bytes ht hi hz hsize hby hzs hsz e3.1 e3.2 e2 h1 hm hb
    have hrun' : (execOp a.eval o).run P κ.w = .ok (.value v') κ'.w := by
      have e1' : a.eval x = σ id := e1.1
      unfold execOp
      rw [ho]
      simp only [resolve, invoke, builtin, Sem.run_bind, Sem.run_pure, Result.andThen_ok, List.map_toArray, List.map_cons, List.map_nil, e1', hrun]
    unfold Oper.wp
    rw [hrun']
    refine hk v' (upd σ (8 * nid) v') κ' hle (fun b hb' => hold b (hbase b hb') (fun e => ?_)) (fun i hi => upd_other _ _ _ _ (fun e => hi (by omega))) ⟨(upd_same _ _ _).symm, own_sl how hon⟩ ?_
    · exact hr.base id _ b hid e hb'
    · refine hr.set hle (8 * nid) v' (.row el e (n + m) (xs ++ ys)) (fun i => Nat.beq i id) (fun i d hd hi hgone g hg => ?_) ⟨how, hon⟩ (fun i g hi hi8 hgone hg he => ?_) (fun g hg => ?_) (fun i d hd _ _ j hj => upd_other _ _ _ _ (fun e => (hfr i d hd).2 j hj (by omega))) _ ?_ ?_ ?_
      · have hiid : i ≠ id := fun e => by subst e; simp at hgone
        have := hold g (blk_lt hr hd hg) (fun e => hr.far i id g hiid (by rw [hd]; simp) (by rw [hid]; simp) hg e)
        exact ⟨this.2, this.1⟩
      · have hiid : i ≠ id := fun e => by subst e; simp at hgone
        cases hd : h' i with
        | none => exact hi hd
        | some d =>
          rcases hv' g he with h2 | h2
          · exact hr.far i id g hiid hi (by rw [hid]; simp) hg h2
          · have := blk_lt hr hd hg; omega
      · rcases hv' g hg with h2 | h2
        · exact hr.base id _ g hid h2
        · intro hbg; have := hbase g hbg; omega
      · simp only [updl]; exact upd_same _ _ _
      · intro i hi hgone
        have hiid : i ≠ id := fun e => by subst e; simp at hgone
        simp only [updl]
        rw [upd_other _ _ _ _ hi, upd_other _ _ _ _ hiid]
      · intro i hi hgone
        have hiid : i = id := Nat.eq_of_beq_eq_true hgone
        subst hiid
        simp only [updl]
        rw [upd_other _ _ _ _ hi, upd_same]
  sup := fun U _ _ => ⟨fun s hs => .inr (by have : s ∈ [8 * nid] := hs; simp at this; omega), fun i c hc s hs => by
    simp only [List.mem_cons, Prod.mk.injEq, List.not_mem_nil, or_false] at hc
    rcases hc with ⟨_, hc⟩ | ⟨_, hc⟩
    · cases hc
    · cases hc; cases hs⟩
  wr := fun x hx => by
    simp only [List.mem_cons, List.not_mem_nil, or_false] at hx
    rcases hx with rfl | rfl
    · exact .inl ⟨by simp, by rw [hh]; simp⟩
    · exact .inr (by simp)
/-- 'append' onto nil -/
theorem Valid.appendnil {x y : Operand} {t el : TypeId} {i : TypeInfo} {z : Value} {e m bytes : Nat} {ys : List Value} (ho : o.op = .call { callee := .builtin .append, args := #[x, y], argTypes := #[t, t] })
    (ht : P.underlying t = some (.slice el)) (hi : P.info? el = some i) (hz : i.zero = some z) (hsize : i.size = e) (hby : i.bytes = bytes) (hzs : z.cells.size = e) (hsz : 0 < e)
    (hx : ρ x = Is (.slice none 0 0)) (hy : Reads (ρ y) e m ys) (h1 : ∀ u ∈ ys, u.oneCell' = true) (hm : m ≤ maxLen) (hb : m * bytes ≤ 140737488355328) :
    Valid P nid o ρ h ⟨Own (8 * nid) e m ys, [], [(8 * nid, some (.row el e m ys))]⟩ where
  run := fun base σ κ h' a next Q hops hrd hr hbase _ hfr hk => by
    have e1 := hops x (by rw [ho]; simp [Op.operands, Call.operands])
    have e2 := hy σ κ _ (hops y (by rw [ho]; simp [Op.operands, Call.operands]))
    rw [hx] at e1
    have e1 : a.eval x = .slice none 0 0 := e1
    have hid8 : 8 * nid / 8 = nid := by omega
    obtain ⟨v', κ', hrun, hle, how, hon, hold, hv'⟩ := append_step (P := P) (κ := κ) (v := .slice none 0 0) (n := 0) (xs := []) t o.type el i z e bytes ht hi hz hsize hby hzs hsz (World.ownsRow_nil κ.w 0 el e) (fun g hg => by cases hg) e2 h1 (by simpa using hm) (by simpa using hb)
    simp only [Nat.zero_add, List.nil_append] at how hon
    have hrun' : (execOp a.eval o).run P κ.w = .ok (.value v') κ'.w := by
      unfold execOp
      rw [ho]
      simp only [resolve, invoke, builtin, Sem.run_bind, Sem.run_pure, Result.andThen_ok, List.map_toArray, List.map_cons, List.map_nil, e1, hrun]
    have hv'' : ∀ g, blk v' = some g → g = κ.w.heap.size := fun g hg => by
      rcases hv' g hg with h2 | h2
      · cases h2
      · exact h2
    unfold Oper.wp
    rw [hrun']
    refine hk v' (upd σ (8 * nid) v') κ' hle (fun b hb' => hold b (hbase b hb') (fun e => by cases e)) (fun i hi => upd_other _ _ _ _ (fun e => hi (by omega))) ⟨(upd_same _ _ _).symm, own_sl how hon⟩ ?_
    refine hr.set hle (8 * nid) v' (.row el e m ys) (fun _ => false) (fun i d hd hi _ g hg => ?_) ⟨how, hon⟩ (fun i g hi hi8 _ hg he => ?_) (fun g hg => ?_) (fun i d hd _ _ j hj => upd_other _ _ _ _ (fun e => (hfr i d hd).2 j hj (by omega))) _ (upd_same _ _ _) (fun i hi _ => upd_other _ _ _ _ hi) (fun i _ hf => by cases hf)
    · have := hold g (blk_lt hr hd hg) (fun e => by cases e)
      exact ⟨this.2, this.1⟩
    · cases hd : h' i with
      | none => exact hi hd
      | some d =>
        have h2 := hv'' g he
        have := blk_lt hr hd hg; omega
    · have h2 := hv'' g hg; intro hbg; have := hbase g hbg; omega
  sup := fun U _ _ => ⟨fun s hs => .inr (by have : s ∈ [8 * nid] := hs; simp at this; omega), fun i c hc s hs => by
    simp only [List.mem_singleton, Prod.mk.injEq, Option.some.injEq] at hc
    obtain ⟨_, rfl⟩ := hc
    cases hs⟩
  wr := fun x hx => by simp at hx; subst hx; exact .inr (by simp)
/-- '[]byte(s)' -/
theorem Valid.tobytes {x : Operand} {t st el : TypeId} {s : ByteArray} (ho : o.op = .convert st t x) (ht : P.underlying t = some (.slice el)) (he : P.underlying el = some (.int .u8)) (hst : P.underlying st = some .string) (hx : ρ x = Is (.string s)) (hs : s.size ≤ maxLen) :
    Valid P nid o ρ h ⟨Sl 1 s.size (s.data.toList.map B), [], []⟩ :=
  .fresh _ rfl fun σ κ a hops => by
    have h1 := hops x (by rw [ho]; simp [Op.operands])
    rw [hx] at h1
    have h1 : a.eval x = .string s := h1
    have hrun := run_bytes_of_string (P := P) κ.w st t el s hst ht he
    have hge := grownCap_ge κ.w s.size 0 el
    let κd : Kw := ⟨κ.w.drew, κ.own, κ.lt⟩
    refine ⟨_, κd.new (.cells (bytesRow s (grownCap κ.w s.size 0 el)) el ((bytesRow s (grownCap κ.w s.size 0 el)).size, (bytesRow s (grownCap κ.w s.size 0 el)).size + 1)) none, ?_, Kw.le_trans κ.drew_le (κd.new_le _ _), fun b hb => κd.new_old _ _ b hb, ⟨by rw [List.length_map, Nat.mul_one]; rfl, .inr ⟨⟨κ.w.heap.size, 0, none⟩, grownCap κ.w s.size 0 el, rfl, hge, grownCap_le_maxLen κ.w s.size 0 el hs, fun j u hj => ⟨rfl, ?_, fun k hk => ?_⟩⟩⟩⟩
    · unfold execOp
      rw [ho]
      simp only [h1, hrun, Sem.run_bind, Result.andThen_ok, Sem.run_pure]
      rfl
    · have hjs : j < s.data.toList.length := by
        have := (List.getElem?_eq_some_iff.1 hj).1
        simpa using this
      have hjs' : j < s.data.size := by simpa using hjs
      have hat := (κd.new_at (.cells (bytesRow s (grownCap κ.w s.size 0 el)) el ((bytesRow s (grownCap κ.w s.size 0 el)).size, (bytesRow s (grownCap κ.w s.size 0 el)).size + 1)) none).1
      show World.cell? _ ⟨κd.w.heap.size, 0 + j, none⟩ = some u
      rw [cell_of_row _ _ _ _ _ _ hat, ← hj]
      simp only [bytesRow, Nat.zero_add]
      rw [Array.getElem?_append_left (by simpa using hjs')]
      simp []; rfl
    · have : (κd.new (.cells (bytesRow s (grownCap κ.w s.size 0 el)) el ((bytesRow s (grownCap κ.w s.size 0 el)).size, (bytesRow s (grownCap κ.w s.size 0 el)).size + 1)) none).own κ.w.heap.size = none := (κd.new_at _ _).2
      rw [this] at hk; cases hk
end
/-! ### a function's contract -/
def resOne (tmps : Array Value) : ResultVar → Sem Value
  | .tmp t => pure (tmps.getD t undef)
  | .cell a t => do loadVar t (← asAddr (tmps.getD a undef))
def RVal (P : Program) (st : St) (r : ResultVar) (A : AV) : Prop := ∀ X a σ κ, RK X (fun s => s / 8 < st.cnt) st.env st.heap a σ κ → ∃ v, (resOne a.tmps r).run P κ.w = .ok v κ.w ∧ A.p σ κ v
theorem RVal.tmp {P : Program} {st : St} {t : Tmp} {A : AV} (h : ∀ σ κ v, (st.env t).p σ κ v → A.p σ κ v) : RVal P st (.tmp t) A := fun _X _a _σ _κ hR => ⟨_, rfl, h _ _ _ (hR.env_ t)⟩
theorem RVal.cell {P : Program} {st : St} {t : Tmp} {ty t0 : TypeId} {id off : Nat} {cs : List AV} {B A : AV} (hag : ∀ w, (isAgg ty).run P w = .ok false w) (hx : st.env t = Ptr id off) (hh : st.heap id = some (.var t0 cs)) (hB : cs[off]? = some B) (h : ∀ σ κ v, B.p σ κ v → A.p σ κ v) : RVal P st (.cell t ty) A := fun X a σ κ hR => by
  have h1 := hR.env_ t
  rw [hx] at h1
  obtain ⟨b, hσ, hu⟩ := h1
  have h2 := hR.hr.at_ id _ hh
  rw [hσ] at h2
  obtain ⟨b', us, e, hheap, hall, _⟩ := h2
  cases e
  obtain ⟨v, hv, hBv⟩ := all2_get hall hB
  refine ⟨v, ?_, h _ _ _ hBv⟩
  have hc : κ.w.cell? ⟨b, off, none⟩ = some v := by rw [cell_of_row _ _ _ _ _ _ hheap]; simpa using hv
  simp only [resOne, hu, asAddr, Sem.run_bind, Sem.run_pure, Result.andThen_ok, loadVar, hag]
  simp [Go.load, Sem.run, hc]
theorem RVal.cellagg {P : Program} {st : St} {t : Tmp} {ty t0 : TypeId} {id off n : Nat} {cs : List AV} {A : AV} (hag : ∀ w, (isAgg ty).run P w = .ok true w) (hsz : ∀ w, (sizeOf ty).run P w = .ok n w) (hx : st.env t = Ptr id off) (hh : st.heap id = some (.var t0 cs)) (hn : off + n ≤ cs.length) (h : ∀ σ κ v, (Agg ((cs.drop off).take n)).p σ κ v → A.p σ κ v) : RVal P st (.cell t ty) A := fun X a σ κ hR => by
  have h1 := hR.env_ t
  rw [hx] at h1
  obtain ⟨b, hσ, hu⟩ := h1
  have h2 := hR.hr.at_ id _ hh
  rw [hσ] at h2
  obtain ⟨b', us, e, hheap, hall, _⟩ := h2
  cases e
  have hus := hall.length
  refine ⟨.agg ((us.toList.drop off).take n).toArray, ?_, h _ _ _ ⟨_, rfl, all2_take n (all2_drop off hall)⟩⟩
  have hc := run_loadCells_list (P := P) (w := κ.w) ⟨b, off, none⟩ ((us.toList.drop off).take n) (fun j v hj => by
    rw [add_eq rfl, cell_of_row _ _ _ _ _ _ hheap]
    rw [List.getElem?_take] at hj
    split at hj
    · rw [List.getElem?_drop] at hj; simpa using hj
    · cases hj)
  have hl : ((us.toList.drop off).take n).length = n := by rw [List.length_take, List.length_drop]; omega
  rw [hl] at hc
  simp only [resOne, hu, asAddr, Sem.run_bind, Sem.run_pure, Result.andThen_ok, loadVar, hag, if_true, hsz, hc]
structure ResOk (P : Program) (fn : Func) (st : St) (A : AV) : Prop where
  run : ∀ X a σ κ, RK X (fun s => s / 8 < st.cnt) st.env st.heap a σ κ → ∃ v, (results fn a.tmps).run P κ.w = .ok v κ.w ∧ A.p σ κ v
section
variable {P : Program} {fn : Func} {st : St} {A B C D : AV} {r s t u : ResultVar}
theorem results_eq (tmps : Array Value) : results fn tmps = (do let vs ← fn.results.mapM (resOne tmps); pure (if h : vs.size = 1 then vs[0] else .tuple vs)) := rfl
theorem ResOk.none (h : fn.results = #[]) (hA : ∀ σ κ, A.p σ κ (.tuple #[])) : ResOk P fn st A := ⟨fun X a σ κ hR => by
  refine ⟨.tuple #[], ?_, hA _ _⟩
  rw [results_eq, h]
  simp⟩
theorem ResOk.one (h : fn.results = #[r]) (hr : RVal P st r A) : ResOk P fn st A := ⟨fun X a σ κ hR => by
  obtain ⟨v, h1, h2⟩ := hr X a σ κ hR
  refine ⟨v, ?_, h2⟩
  rw [results_eq, h]
  simp [h1]⟩
theorem ResOk.two (h : fn.results = #[r, s]) (hr : RVal P st r A) (hs : RVal P st s B) : ResOk P fn st (Tup [A, B]) := ⟨fun X a σ κ hR => by
  obtain ⟨v, h1, h2⟩ := hr X a σ κ hR
  obtain ⟨v', h1', h2'⟩ := hs X a σ κ hR
  refine ⟨.tuple #[v, v'], ?_, [v, v'], rfl, h2, h2', trivial⟩
  rw [results_eq, h]
  simp [h1, h1', Result.andThen]⟩
theorem ResOk.three (h : fn.results = #[r, s, t]) (hr : RVal P st r A) (hs : RVal P st s B) (ht : RVal P st t C) : ResOk P fn st (Tup [A, B, C]) := ⟨fun X a σ κ hR => by
  obtain ⟨v, h1, h2⟩ := hr X a σ κ hR
  obtain ⟨v', h1', h2'⟩ := hs X a σ κ hR
  obtain ⟨v'', h1'', h2''⟩ := ht X a σ κ hR
  refine ⟨.tuple #[v, v', v''], ?_, [v, v', v''], rfl, h2, h2', h2'', trivial⟩
  rw [results_eq, h]
  simp [h1, h1', h1'', Result.andThen]⟩
end
def argE : Nat → List AV → Env
  | _, [] => fun _ => Any
  | k, A :: l => upd (argE (k + 1) l) k A
theorem argE_at : ∀ (l : List AV) (k t : Nat), argE k l t = Any ∨ ∃ i A, t = k + i ∧ l[i]? = some A ∧ argE k l t = A
  | [], _, _ => .inl rfl
  | A :: l, k, t => by
    by_cases e : t = k
    · subst e; exact .inr ⟨0, A, by omega, rfl, by simp only [argE, upd_same]⟩
    · simp only [argE, upd_other _ _ _ _ e]
      rcases argE_at l (k + 1) t with h | ⟨i, B, h1, h2, h3⟩
      · exact .inl h
      · exact .inr ⟨i + 1, B, by omega, by simpa using h2, h3⟩
def FinQ (P : Program) (fn : Func) (A : AV) : Exit → St → Prop
  | .normal, st | .ret, st => ResOk P fn st A
  | _, _ => False
/-- marks taken: what a function does as it leaves -/
def shut : World → List Nat → World
  | w, [] => w
  | w, r :: ms => shut (w.putObj r (.deferred none)) ms
theorem shut_size : ∀ (ms : List Nat) (w : World), (shut w ms).heap.size = w.heap.size
  | [], _ => rfl
  | r :: ms, w => by rw [shut, shut_size ms]; simp
theorem shut_at : ∀ (ms : List Nat) (w : World) (b : Nat), b ∉ ms → (shut w ms).heap[b]? = w.heap[b]?
  | [], _, _, _ => rfl
  | r :: ms, w, b, h => by
    simp only [List.mem_cons, not_or] at h
    rw [shut, shut_at ms _ b h.2]
    exact World.putObj_heap_other h.1
theorem shut_os : ∀ (ms : List Nat) (w : World), (shut w ms).os = w.os ∧ (shut w ms).tape = w.tape ∧ (shut w ms).output = w.output
  | [], _ => ⟨rfl, rfl, rfl⟩
  | r :: ms, w => by
    rw [shut]
    exact shut_os ms _
theorem leaves_ms {P : Program} {fn : Func} {tmps : Array Value} {R : Ending → World → Prop} {n : Nat} : ∀ (ms : List Nat) (w : World), ms.Nodup → (∀ r, r ∈ ms → w.heap[r]? = some (.deferred (some []))) →
    (∃ v, (results fn tmps).run P (shut w ms) = .ok v (shut w ms) ∧ R (.returned v) (shut w ms)) → LeavesInM Fence.wide n P fn tmps R (ms.map mark) .returning w
  | [], _, _, _, h => h
  | r :: ms, w, hn, hr, h => by
    obtain ⟨h1, h2⟩ := List.nodup_cons.1 hn
    refine ⟨by simp, .inl ⟨r, w.putObj r (.deferred none), rfl, run_takeDeferred (hr r (by simp)), ?_⟩⟩
    refine leaves_ms ms _ h2 (fun r' hr' => ?_) h
    rw [World.putObj_heap_other (fun e => h1 (by rw [← e]; exact hr'))]
    exact hr r' (by simp [hr'])
theorem RK.leave {X : Fix} {used : Nat → Prop} {env : Env} {heap : Heap} {a : Act} {σ : Names} {κ : Kw} (h : RK X used env heap a σ κ) : ∃ ms κ', a.defers = ms.map mark ∧ ms.Nodup ∧ (∀ r, r ∈ ms → κ.w.heap[r]? = some (.deferred (some []))) ∧ κ'.w = shut κ.w ms ∧ RK X used env heap { a with defers := [] } σ κ' := by
  obtain ⟨D, ms, hp⟩ := h.prot
  have hlt : ∀ b k, κ.own b = some k → b < (shut κ.w ms).heap.size := fun b k hb => by rw [shut_size]; exact κ.lt b k hb
  have hne : ∀ b, κ.own b = none → b ∉ ms := fun b hb hm => by rw [(hp.marks b hm).2.2.2.1] at hb; cases hb
  obtain ⟨o1, o2, o3⟩ := shut_os ms κ.w
  have hle : κ.le ⟨shut κ.w ms, κ.own, hlt⟩ := ⟨o1, o2, o3, Nat.le_of_eq (shut_size _ _).symm, fun b _ hb => ⟨hb, shut_at _ _ _ (hne b hb)⟩, fun b k hb => ⟨fun k' hk' => by have : κ.own b = some k' := hk'; rw [hb] at this; cases this; exact Nat.le_refl _, fun j u hj hu => by
    have hm : b ∉ ms := fun hm => by
      rw [(hp.marks b hm).2.2.2.1] at hb; cases hb; exact absurd hj (Nat.not_lt_zero _)
    simp only [World.cell?] at hu ⊢
    rw [shut_at _ _ _ hm]; exact hu⟩⟩
  refine ⟨ms, ⟨shut κ.w ms, κ.own, hlt⟩, hp.ds, hp.nodup, fun r hr => (hp.marks r hr).2.2.2.2, rfl, { tmps := h.tmps, base := fun b hb => Nat.lt_of_lt_of_le (h.base b hb) hle.size, pin := h.pin, env_ := fun t => (env t).mono hle (h.env_ t), hr := ⟨fun i c hc => Chunk.keep hle (fun g hg => ⟨shut_at _ _ _ (hp.far i c g hc hg).2, rfl⟩) (h.hr.at_ i c hc), h.hr.far, h.hr.base⟩, le0 := Kw.le_trans h.le0 hle, old := fun b hb => ⟨(h.old b hb).1, (shut_at _ _ _ (fun hm => (hp.marks b hm).2.1 hb)).trans (h.old b hb).2⟩, sup := h.sup, hsup := h.hsup, prot := ⟨D, [], ?_⟩ }⟩
  have hst : Still D κ ⟨shut κ.w ms, κ.own, hlt⟩ := fun b hb => ⟨rfl, shut_at _ _ _ (fun hm => (hp.marks b hm).1 hb)⟩
  exact ⟨fun b hb => ⟨Nat.lt_of_lt_of_le (hp.bd b hb).1 hle.size, (hp.bd b hb).2⟩, hp.nb, fun i c g hc hg => ⟨(hp.far i c g hc hg).1, by simp⟩, X.stK _ _ _ hp.k hle hst, fun I k e => X.stJ _ _ _ _ _ (hp.j I k e) hle hst, rfl, List.nodup_nil, fun r hr => by cases hr⟩
/-- a contract, by the function's code -/
theorem FPure.of {P : Program} {f : FuncId} {fn : Func} {c : Code} {args : List AV} {A : AV} {N : Nat} (hf : P.funcs[f]? = some fn) (hN : fn.ntmps = N) (hb : fn.body = some c) (hname : (fn.name == "runtime.NumGoroutine") = false) (hn : Nat.ble args.length N = true) (hA : A.sup = []) (hargs : args.flatMap AV.sup = [])
    (h0 : W P N c ⟨argE 0 args, fun _ => none, 1⟩ (FinQ P fn A)) : FPure P f args A where
  sup := hA
  ent := fun as w => run_callFunc hf hname (by rw [hb]; rfl) as w
  calls := fun σ κ vs hvs => by
    have hlen := hvs.length
    subst hN
    have h := h0
    have hn' : args.length ≤ fn.ntmps := Nat.le_of_ble_eq_true hn
    refine callsIn_wide.1 (callsIn_of_wp_marks (F := Fence.wide) (n := 0) hf hb trivial ?_)
    have h0 : RS (Fix.plain fn.ntmps (fun b => b < κ.w.heap.size) σ κ) ⟨argE 0 args, fun _ => none, 1⟩ { tmps := vs.toArray ++ Array.replicate (fn.ntmps - vs.toArray.size) undef, defers := [] } κ.w := by
      refine ⟨Nat.le_refl _, σ, κ, rfl, { tmps := by simp [Fix.plain]; omega, prot := ⟨_, [], Prot.plain rfl⟩, base := fun b hb => hb, pin := fun _ _ => rfl, env_ := fun t => ?_, hr := ⟨(fun i c hc => by cases hc), (fun i j g _ hi _ _ => absurd rfl hi), (fun i c g hc _ => by cases hc)⟩, le0 := Kw.le_refl κ, old := fun b _ => ⟨rfl, rfl⟩, sup := fun t s hs => ?_, hsup := fun i c hc => by cases hc }⟩
      · rcases argE_at args 0 t with h1 | ⟨i, B, h1, h2, h3⟩
        · show (argE 0 args t).p _ _ _
          rw [h1]; trivial
        · show (argE 0 args t).p _ _ _
          rw [h3]
          obtain ⟨v, hv, hB⟩ := all2_get hvs h2
          have : (vs.toArray ++ Array.replicate (fn.ntmps - vs.toArray.size) undef).getD t undef = v := by
            have hi : i < vs.length := (List.getElem?_eq_some_iff.1 hv).1
            have ht : t = i := by omega
            subst ht
            rw [Array.getD_eq_getD_getElem?, Array.getElem?_append_left (by simpa using hi)]
            simp [hv]
          rw [this]; exact hB
      · rcases argE_at args 0 t with h1 | ⟨i, B, h1, h2, h3⟩
        · have hs' : s ∈ (argE 0 args t).sup := hs
          rw [h1] at hs'; cases hs'
        · have hs' : s ∈ (argE 0 args t).sup := hs
          rw [h3] at hs'
          have := sup_mem (List.mem_of_getElem? h2) hs'
          rw [hargs] at this; cases this
    refine wpIn_mono (h _ 0 _ _ Fix.plain_ok rfl h0) fun e a' w' ⟨st', hq, _, σ', κ', hw, hR⟩ => ?_
    have fin : ResOk P fn st' A → LeavesInM Fence.wide 0 P fn a'.tmps (fun e w' => ∃ v κ', e = .returned v ∧ κ'.w = w' ∧ κ.le κ' ∧ (∀ b, b < κ.w.heap.size → κ'.own b = κ.own b ∧ κ'.w.heap[b]? = κ.w.heap[b]?) ∧ A.p σ κ' v) a'.defers .returning w' := fun hok => by
      obtain ⟨ms, κ'', h1, h2, h3, h4, h5⟩ := hR.leave
      obtain ⟨v, hv, hAv⟩ := hok.run _ _ σ' κ'' h5
      rw [h1]
      refine leaves_ms ms w' h2 (fun r hr => by rw [← hw]; exact h3 r hr) ⟨v, ?_, v, κ'', rfl, by rw [h4, hw], h5.le0, h5.old, A.loc (fun i hi => by rw [hA] at hi; cases hi) hAv⟩
      rw [← hw, ← h4]; exact hv
    cases e with
    | normal => exact fin hq
    | ret => exact fin hq
    | exit _ => exact hq.elim
    | goto _ => exact hq.elim
    | panic _ => exact hq.elim
    | outgrown => exact hq.elim
theorem Runs_nil {P : Program} {N c : Nat} {ops : Array Oper} {k : Nat} {env : Env} {heap : Heap} {K : List Res → Env → Heap → Prop} (h : K [] env heap) : Runs P N c ops k [] env heap K := h
theorem Runs_op {P : Program} {N c : Nat} {ops : Array Oper} {k : Nat} {env : Env} {heap : Heap} {K : List Res → Env → Heap → Prop} {o : Oper} {os : List Oper} {r : Res} (hg : o.guard = none) (hv : Valid P (c + k) o (ρof env) heap r) (hd : (o.dst.all (fun d => decide (d < N))) = true)
    (h : Runs P N c ops (k + 1) os (putE env o.dst r.val) (updl heap r.wr) (fun rs => K (r :: rs))) (hz : calmB o r = true := by rfl) : Runs P N c ops k (o :: os) env heap K := ⟨r, by unfold GValid; rw [hg]; exact hv.up hz, hd, h⟩
def over (env : Env) : List (Nat × AV) → Env
  | [] => env
  | (k, A) :: l => upd (over env l) k A
def OverOk (env : Env) : List (Nat × AV) → Prop
  | [] => True
  | (k, A) :: l => ((∀ σ κ v, (env k).p σ κ v → A.p σ κ v) ∧ ∀ s ∈ A.sup, s ∈ (env k).sup) ∧ OverOk env l
theorem OverOk.at_ {env : Env} : ∀ {l : List (Nat × AV)}, OverOk env l → ∀ t, (∀ σ κ v, (env t).p σ κ v → (over env l t).p σ κ v) ∧ ∀ s ∈ (over env l t).sup, s ∈ (env t).sup
  | [], _, t => ⟨fun _ _ _ h => h, fun _ h => h⟩
  | (k, A) :: l, ⟨h1, h2⟩, t => by
    by_cases e : t = k
    · subst e; simp only [over, upd_same]; exact h1
    · simp only [over, upd_other _ _ _ _ e]; exact OverOk.at_ h2 t
theorem cnd_at {B A : AV} {c : Prop} (h : B = Cnd c A) (hc : c) : (∀ σ κ v, B.p σ κ v → A.p σ κ v) ∧ ∀ s ∈ A.sup, s ∈ B.sup := by
  subst h; exact ⟨fun _ _ _ h => h.1 hc, fun _ h => h⟩
/-- an operation under a guard: not known whether it is carried out -/
theorem Runs_cnd {P : Program} {N c : Nat} {ops : Array Oper} {k : Nat} {env : Env} {heap : Heap} {K : List Res → Env → Heap → Prop} {o : Oper} {os : List Oper} {A : AV} {rd : List Nat} {j d : Nat} {want : Bool} {g : Prop} (hg : o.guard = some (j, want)) (hj : (ops[j]?).bind (·.dst) = some d) (hβ : Grd (env d) want g)
    (l : List (Nat × AV)) (hl : g → OverOk env l) (hv : g → Valid P (c + k) o (ρof (over env l)) heap ⟨A, rd, []⟩) (hA : A.sup = []) (hd : (o.dst.all (fun d => decide (d < N))) = true)
    (h : Runs P N c ops (k + 1) os (putE env o.dst (Cnd g A)) heap (fun rs => K (⟨Cnd g A, rd, []⟩ :: rs))) (hz : calmB o ⟨A, rd, []⟩ = true := by rfl) : Runs P N c ops k (o :: os) env heap K :=
  ⟨⟨Cnd g A, rd, []⟩, by unfold GValid; rw [hg]; exact ⟨d, g, hj, hβ, .inr (.inr ⟨A, rd, over env l, fun hb => ⟨(hv hb).up hz, fun t _ => (hl hb).at_ t⟩, fun s hs => (by rw [hA] at hs; cases hs), rfl⟩)⟩, hd, h⟩
/-- so for what stands on memory of the call's own -/
theorem Runs_cnds {P : Program} {N c : Nat} {ops : Array Oper} {k : Nat} {env : Env} {heap : Heap} {K : List Res → Env → Heap → Prop} {o : Oper} {os : List Oper} {A : AV} {rd : List Nat} {j d t : Nat} {want : Bool} {g : Prop} (hg : o.guard = some (j, want)) (hj : (ops[j]?).bind (·.dst) = some d) (hβ : Grd (env d) want g)
    (l : List (Nat × AV)) (hl : g → OverOk env l) (hv : g → Valid P (c + k) o (ρof (over env l)) heap ⟨A, rd, []⟩) (ht : Operand.tmp t ∈ o.op.operands) (hA : (env t).sup = A.sup) (hd : (o.dst.all (fun d => decide (d < N))) = true)
    (h : Runs P N c ops (k + 1) os (putE env o.dst (Cnd g A)) heap (fun rs => K (⟨Cnd g A, rd, []⟩ :: rs))) (hz : calmB o ⟨A, rd, []⟩ = true := by rfl) : Runs P N c ops k (o :: os) env heap K :=
  ⟨⟨Cnd g A, rd, []⟩, by unfold GValid; rw [hg]; exact ⟨d, g, hj, hβ, .inr (.inr ⟨A, rd, over env l, fun hb => ⟨(hv hb).up hz, fun t _ => (hl hb).at_ t⟩, fun s hs => ⟨t, ht, by rw [hA]; exact hs⟩, rfl⟩)⟩, hd, h⟩
/-- an operation under a guard that lets it through -/
theorem Runs_yes {P : Program} {N c : Nat} {ops : Array Oper} {k : Nat} {env : Env} {heap : Heap} {K : List Res → Env → Heap → Prop} {o : Oper} {os : List Oper} {r : Res} {j d : Nat} {want : Bool} {g : Prop} (hg : o.guard = some (j, want)) (hj : (ops[j]?).bind (·.dst) = some d) (hβ : Grd (env d) want g) (hgg : g)
    (hv : Valid P (c + k) o (ρof env) heap r) (hd : (o.dst.all (fun d => decide (d < N))) = true)
    (h : Runs P N c ops (k + 1) os (putE env o.dst r.val) (updl heap r.wr) (fun rs => K (r :: rs))) (hz : calmB o r = true := by rfl) : Runs P N c ops k (o :: os) env heap K :=
  ⟨r, by unfold GValid; rw [hg]; exact ⟨d, g, hj, hβ, .inl ⟨hgg, hv.up hz⟩⟩, hd, h⟩
/-- and one that doesn't -/
theorem Runs_no {P : Program} {N c : Nat} {ops : Array Oper} {k : Nat} {env : Env} {heap : Heap} {K : List Res → Env → Heap → Prop} {o : Oper} {os : List Oper} {j d : Nat} {want : Bool} {g : Prop} (hg : o.guard = some (j, want)) (hj : (ops[j]?).bind (·.dst) = some d) (hβ : Grd (env d) want g) (hgg : ¬ g) (hd : (o.dst.all (fun d => decide (d < N))) = true)
    (h : Runs P N c ops (k + 1) os (putE env o.dst (Is undef)) heap (fun rs => K (⟨Is undef, [], []⟩ :: rs))) : Runs P N c ops k (o :: os) env heap K :=
  ⟨⟨Is undef, [], []⟩, by unfold GValid; rw [hg]; exact ⟨d, g, hj, hβ, .inr (.inl ⟨hgg, rfl⟩)⟩, hd, h⟩
end Ab
end Go.Proofs.Ytmilegikgbmjpaa
