/-
  BUILDERS OF TEXTS: a variable that holds a pointer to itself, or none yet; the bytes of a row as a text.
-/
import Derived.Test.YtmilegikgbmjpaaAby
import Derived.Lib.Builder
import Derived.Lib.UnsafeStr
import Derived.Laws.Externs
namespace Go.Proofs.Ytmilegikgbmjpaa
open Go.RowKit
namespace Ab
/-- a pointer to a variable's beginning, or nil -/
def PN (β : Bool) (id : Nat) : AV := ⟨fun σ _ u => (β = true → ∃ b, σ id = .pointer (some ⟨b, 0, none⟩) ∧ u = .pointer (some ⟨b, 0, none⟩)) ∧ (β = false → u = .pointer none), [id],
  fun hs ⟨h1, h2⟩ => ⟨fun hb => by obtain ⟨b, k1, k2⟩ := h1 hb; exact ⟨b, (hs id (by simp)).trans k1, k2⟩, h2⟩, fun _ h => h⟩
theorem leq_pn {θ : Nat → Nat} {A B : AV} {β β' : Bool} {id id' : Nat} (h : A = PN β id) (h' : B = PN β' id') (hθ : Nat.beq (θ id') id = true) (e : β = β') : A.leq θ B := fun σ κ u hu => by
  subst h h' e
  have := Nat.eq_of_beq_eq_true hθ
  subst this
  exact hu
theorem leq_pnp {θ : Nat → Nat} {A B : AV} {β' : Bool} {id id' : Nat} (h : A = Ptr id 0) (h' : B = PN β' id') (hθ : Nat.beq (θ id') id = true) (e : β' = true) : A.leq θ B := fun σ κ u hu => by
  subst h h'
  have := Nat.eq_of_beq_eq_true hθ
  subst this
  exact ⟨fun _ => hu, fun h => by rw [e] at h; cases h⟩
theorem leq_ppn {θ : Nat → Nat} {A B : AV} {β : Bool} {id id' : Nat} (h : A = PN β id) (h' : B = Ptr id' 0) (hθ : Nat.beq (θ id') id = true) (e : β = true) : A.leq θ B := fun σ κ u hu => by
  subst h h'
  have := Nat.eq_of_beq_eq_true hθ
  subst this
  exact hu.1 e
theorem leq_pnn {θ : Nat → Nat} {A B : AV} {β' : Bool} {id' : Nat} (h : A = Is (.pointer none)) (h' : B = PN β' id') (e : β' = false) : A.leq θ B := fun σ κ u hu => by
  subst h h'
  exact ⟨fun h => (by rw [e] at h; cases h), fun _ => hu⟩
theorem up_pn {θ : Nat → Nat} {β : Bool} {id id' : Nat} (h : Nat.beq (θ id) id' = true) : AV.up θ (PN β id) (PN β id') := by
  have := Nat.eq_of_beq_eq_true h
  subst this
  exact fun _ _ _ hv => hv
theorem up_fn {θ : Nat → Nat} {f : FuncId} {a b c d : List AV} (h1 : AllUp θ a c) (h2 : AllUp θ b d) : AV.up θ (FnV f a b) (FnV f c d) := fun σ κ u hu => by
  obtain ⟨us, vs, h3, h4, h5⟩ := hu
  exact ⟨us, vs, h3, h1.all2 h4, h2.all2 h5⟩
theorem One.pn {A : AV} {β : Bool} {id : Nat} (h : A = PN β id) : One A := fun σ κ v hv => by
  subst h
  cases β with
  | true => obtain ⟨b, _, h2⟩ := hv.1 rfl; subst h2; exact ⟨rfl, rfl⟩
  | false => have := hv.2 rfl; subst this; exact ⟨rfl, rfl⟩
theorem One.fnv {A : AV} {f : FuncId} {a b : List AV} (h : A = FnV f a b) : One A := fun σ κ v hv => by
  subst h
  obtain ⟨us, vs, h1, _⟩ := hv
  subst h1; exact ⟨rfl, rfl⟩
/-- the address of a row's bytes -/
def SD (id : Nat) : AV := ⟨fun σ _ u => ∃ q, u = .pointer q ∧ ∀ g n c, σ id = .slice (some ⟨g, 0, none⟩) n c → n ≠ 0 → n ≤ c → q = some ⟨g, 0, none⟩, [id],
  fun hs ⟨q, h1, h2⟩ => ⟨q, h1, fun g n c h => h2 g n c ((hs id (by simp)).symm.trans h)⟩, fun _ h => h⟩
section
variable {P : Program} {nid : Nat} {o : Oper} {ρ : Operand → AV} {h : Heap}
theorem Valid.pneq {t t' : TypeId} {x y : Operand} {β : Bool} {id : Nat} (ho : o.op = .binOp .eql t x y t') (hx : ρ x = PN β id) (hy : ρ y = Is (.pointer none)) (hq : ∀ b w, (do eqGuard .eql t x y (.pointer (some ⟨b, 0, none⟩)) (.pointer none); binOp .eql t (.pointer (some ⟨b, 0, none⟩)) (.pointer none)).run P w = .ok (.bool false) w) (hn : ∀ w, (do eqGuard .eql t x y (.pointer none) (.pointer none); binOp .eql t (.pointer none) (.pointer none)).run P w = .ok (.bool true) w) : Valid P nid o ρ h ⟨Is (.bool (!β)), [], []⟩ :=
  .quiet _ (nosup rfl) fun σ κ a hops => by
    have e1 := hops x (by rw [ho]; simp [Op.operands])
    have e2 := hops y (by rw [ho]; simp [Op.operands])
    rw [hx] at e1; rw [hy] at e2
    have e2 : a.eval y = .pointer none := e2
    cases β with
    | true =>
      obtain ⟨b, _, e3⟩ := e1.1 rfl
      have := hq b κ.w
      refine ⟨.bool false, ?_, rfl⟩
      unfold execOp
      rw [ho]
      simp only [e2, e3, Sem.run_bind] at this ⊢
      cases h1 : (eqGuard .eql t x y (.pointer (some ⟨b, 0, none⟩)) (.pointer none)).run P κ.w with
      | ok v w => rw [h1] at this; simp only [Result.andThen] at this ⊢; rw [this]; rfl
      | _ => rw [h1] at this; cases this
    | false =>
      have e3 := e1.2 rfl
      have := hn κ.w
      refine ⟨.bool true, ?_, rfl⟩
      unfold execOp
      rw [ho]
      simp only [e2, e3, Sem.run_bind] at this ⊢
      cases h1 : (eqGuard .eql t x y (.pointer none) (.pointer none)).run P κ.w with
      | ok v w => rw [h1] at this; simp only [Result.andThen] at this ⊢; rw [this]; rfl
      | _ => rw [h1] at this; cases this
theorem guard_ptr (t : TypeId) (x y : Operand) (a b : Addr) (w : World) : (eqGuard .neq t x y (.pointer (some a)) (.pointer (some b))).run P w = .ok () w := by
  unfold eqGuard; rfl
theorem Valid.pnne {t t' te : TypeId} {x y : Operand} {β : Bool} {id : Nat} (ho : o.op = .binOp .neq t x y t') (hx : ρ x = PN β id) (hβ : β = true) (hy : ρ y = Ptr id 0) (hp : P.underlying t = some (.pointer te)) (hte : (P.info? te).isSome = true) : Valid P nid o ρ h ⟨Is (.bool false), [], []⟩ :=
  .quiet _ (nosup rfl) fun σ κ a hops => by
    have e1 := hops x (by rw [ho]; simp [Op.operands])
    have e2 := hops y (by rw [ho]; simp [Op.operands])
    rw [hx] at e1; rw [hy] at e2
    obtain ⟨b, k1, k2⟩ := e1.1 hβ
    obtain ⟨b', k3, k4⟩ := e2
    rw [k1] at k3; cases k3
    obtain ⟨j, hj⟩ := Option.isSome_iff_exists.1 hte
    refine ⟨.bool false, ?_, rfl⟩
    unfold execOp
    rw [ho]
    simp only [k2, k4, Sem.run_bind, guard_ptr, Result.andThen_ok, Lib.run_neq_ptr_same κ.w _ hp hj, Sem.run_pure]
/-- *T to unsafe.Pointer -/
theorem Valid.unsafeTo {src dst te t0 : TypeId} {x : Operand} {id : Nat} {cs : List AV} (ho : o.op = .convert src dst x) (hx : ρ x = Ptr id 0) (hh : h id = some (.var t0 cs)) (hcs : 0 < cs.length) (hs : P.underlying src = some (.pointer te)) (hd : P.underlying dst = some .unsafePointer) (hte : (P.info? te).any (fun i => !Nat.beq i.size 0) = true) :
    Valid P nid o ρ h ⟨Ptr id 0, [id], []⟩ where
  run := fun base σ κ h' a next Q hops hrd hr hb _ _ hk => by
    have h1 := hops x (by rw [ho]; simp [Op.operands])
    rw [hx] at h1
    obtain ⟨b, hσ, hu⟩ := h1
    have h2 := hr.at_ id (.var t0 cs) (by rw [hrd id (by simp), hh])
    rw [hσ] at h2
    obtain ⟨b', us, e, hheap, hall, _⟩ := h2
    cases e
    have hlen := hall.length
    cases hj : P.info? te with
    | none => rw [hj] at hte; cases hte
    | some j =>
      have hj0 : j.size ≠ 0 := fun e => by rw [hj] at hte; simp [e] at hte
      have hrun : (execOp a.eval o).run P κ.w = .ok (.value (.pointer (some ⟨b, 0, none⟩))) κ.w := by
        unfold execOp
        rw [ho]
        simp only [hu, Sem.run_bind, Lib.run_to_unsafe κ.w ⟨b, 0, none⟩ hs hd hj hj0 (e := t0) (cells := us.size) (by simp [World.shape?, hheap]) (by show 0 < us.size; simpa [hlen] using (by have := hlen; simp at this; omega : 0 < us.size)), Result.andThen_ok, Sem.run_pure]
      unfold Oper.wp
      rw [hrun]
      exact hk _ σ κ (Kw.le_refl κ) (fun _ _ => ⟨rfl, rfl⟩) (fun _ _ => rfl) ⟨b, hσ, rfl⟩ hr
  sup := fun U hU _ => ⟨fun s hs => .inl (hU x (by rw [ho]; simp [Op.operands]) s (by rw [hx]; exact hs)), fun i c hc => by cases hc⟩
  wr := fun x hx => by cases hx
/-- and back -/
theorem Valid.unsafeFrom {src dst te t0 : TypeId} {x : Operand} {id : Nat} {cs : List AV} (ho : o.op = .convert src dst x) (hx : ρ x = Ptr id 0) (hh : h id = some (.var t0 cs)) (hs : P.underlying src = some .unsafePointer) (hd : P.underlying dst = some (.pointer te)) (hte : (P.info? te).isSome = true) (hl : liesAt P P.depth t0 (cs.length / P.cellsOf t0) 0 te 1 = true) :
    Valid P nid o ρ h ⟨Ptr id 0, [id], []⟩ where
  run := fun base σ κ h' a next Q hops hrd hr hb _ _ hk => by
    have h1 := hops x (by rw [ho]; simp [Op.operands])
    rw [hx] at h1
    obtain ⟨b, hσ, hu⟩ := h1
    have h2 := hr.at_ id (.var t0 cs) (by rw [hrd id (by simp), hh])
    rw [hσ] at h2
    obtain ⟨b', us, e, hheap, hall, _⟩ := h2
    cases e
    have hlen : us.size = cs.length := by simpa using hall.length
    obtain ⟨j, hj⟩ := Option.isSome_iff_exists.1 hte
    have hrun : (execOp a.eval o).run P κ.w = .ok (.value (.pointer (some ⟨b, 0, none⟩))) κ.w := by
      unfold execOp
      rw [ho]
      simp only [hu, Sem.run_bind, Lib.run_from_unsafe κ.w ⟨b, 0, none⟩ hs hd hj (e := t0) (cells := us.size) (by simp [World.shape?, hheap]) (by rw [hlen]; exact hl), Result.andThen_ok, Sem.run_pure]
    unfold Oper.wp
    rw [hrun]
    exact hk _ σ κ (Kw.le_refl κ) (fun _ _ => ⟨rfl, rfl⟩) (fun _ _ => rfl) ⟨b, hσ, rfl⟩ hr
  sup := fun U hU _ => ⟨fun s hs => .inl (hU x (by rw [ho]; simp [Op.operands]) s (by rw [hx]; exact hs)), fun i c hc => by cases hc⟩
  wr := fun x hx => by cases hx
theorem Valid.noescape {f : FuncId} {fn : Func} {x : Operand} {ts : Array TypeId} {id : Nat} (ho : o.op = .call { callee := .value (.func f), args := #[x], argTypes := ts }) (hf : P.funcs[f]? = some fn) (hname : (fn.name == "runtime.NumGoroutine") = false)
    (hb : fn.body.isNone = true) (hn : Extern.findNext fn = none) (he : Extern.find fn = some Extern.AbiNoEscape.same) (hx : ρ x = Ptr id 0) : Valid P nid o ρ h ⟨Ptr id 0, [], []⟩ :=
  .quiet _ (fun s hs => ⟨x, by rw [ho]; simp [Op.operands, Call.operands], by rw [hx]; exact hs⟩) fun σ κ a hops => by
    have h1 := hops x (by rw [ho]; simp [Op.operands, Call.operands])
    rw [hx] at h1
    obtain ⟨b, hσ, hu⟩ := h1
    have hcall := run_callFunc_extern (P := P) hf hname hb hn he #[.pointer (some ⟨b, 0, none⟩)] κ.w
    rw [Lib.run_noEscape] at hcall
    refine ⟨.pointer (some ⟨b, 0, none⟩), ?_, b, hσ, rfl⟩
    unfold execOp
    rw [ho]
    have hev : a.eval (.func f) = .func (.func f) #[] #[] := rfl
    simp [resolve, Deferred.ofValue, invoke, hu, hev, hcall, Result.andThen]
end
section
variable {P : Program} {nid : Nat} {o : Oper} {ρ : Operand → AV} {h : Heap}
/-- where a row's bytes begin -/
theorem Valid.slicedata {x : Operand} {t el te : TypeId} {id n : Nat} {xs : List Value} (ho : o.op = .call { callee := .builtin .unsafeSliceData, args := #[x], argTypes := #[t] }) (hp : P.underlying o.type = some (.pointer te)) (hx : ρ x = Own id 1 n xs) (hh : h id = some (.row el 1 n xs)) :
    Valid P nid o ρ h ⟨SD id, [id], []⟩ where
  run := fun base σ κ h' a next Q hops hrd hr hb _ _ hk => by
    have h1 := hops x (by rw [ho]; simp [Op.operands, Call.operands])
    rw [hx] at h1
    obtain ⟨hu, _⟩ := h1
    have hid : h' id = some (.row el 1 n xs) := by rw [hrd id (by simp), hh]
    obtain ⟨⟨hl, h2⟩, h3⟩ := hr.at_ id _ hid
    have run1 : ∀ v w, (Builtin.unsafeSliceData_ #[t] o.type #[a.eval x]).run P κ.w = .ok v w → (execOp a.eval o).run P κ.w = .ok (.value v) w := fun v w hr' => by
      unfold execOp
      rw [ho]
      simp only [resolve, invoke, builtin, Sem.run_bind, Sem.run_pure, Result.andThen_ok, List.map_toArray, List.map_cons, List.map_nil, hr']
    rcases h2 with ⟨hv, hn⟩ | ⟨g, cap, cur, hv, h4, h5, h6, h7, h8, h9⟩
    · have hrun := run1 (.pointer none) κ.w (by rw [hu, hv]; exact Lib.run_unsafeSliceData_nil κ.w _ _ 0 0)
      unfold Oper.wp
      rw [hrun]
      exact hk _ σ κ (Kw.le_refl κ) (fun _ _ => ⟨rfl, rfl⟩) (fun _ _ => rfl) ⟨none, rfl, fun g n c e => by rw [hv] at e; cases e⟩ hr
    · by_cases hc : cap = 0
      · subst hc
        have hrun := run1 (.pointer (some ⟨κ.w.heap.size, 0, none⟩)) (κ.w.alloc (.view ⟨g, 0, none⟩ te)) (by rw [hu, hv]; exact Lib.run_unsafeSliceData_zero κ.w _ _ te hp ⟨g, 0, none⟩ n (el, cur.size) (by simp [World.shape?, h5]))
        unfold Oper.wp
        rw [hrun]
        refine hk _ σ (κ.new (.view ⟨g, 0, none⟩ te) none) (κ.new_le _ _) (fun b hb' => κ.new_old _ _ b (hb b hb')) (fun _ _ => rfl) ⟨_, rfl, fun g' n' c' e hn' hnc => by rw [hv] at e; cases e; omega⟩ ⟨fun i c hc => Chunk.keep (κ.new_le _ _) (fun g' hg => ?_) (hr.at_ i c hc), hr.far, hr.base⟩
        have := κ.new_old (.view ⟨g, 0, none⟩ te) none g' (blk_lt hr hc hg)
        exact ⟨this.2, this.1⟩
      · have hrun := run1 (.pointer (some ⟨g, 0, none⟩)) κ.w (by rw [hu, hv]; exact Lib.run_unsafeSliceData_row κ.w _ _ _ _ _ hc)
        unfold Oper.wp
        rw [hrun]
        exact hk _ σ κ (Kw.le_refl κ) (fun _ _ => ⟨rfl, rfl⟩) (fun _ _ => rfl) ⟨_, rfl, fun g' n' c' e _ _ => by rw [hv] at e; cases e; rfl⟩ hr
  sup := fun U hU _ => ⟨fun s hs => .inl (hU x (by rw [ho]; simp [Op.operands, Call.operands]) s (by rw [hx]; exact hs)), fun i c hc => by cases hc⟩
  wr := fun x hx => by cases hx
/-- the bytes of a row as a text: the row is not to be written any more -/
theorem Valid.unsafestring {x y : Operand} {pt it el : TypeId} {id n : Nat} {l : List UInt8} (ho : o.op = .call { callee := .builtin .unsafeString, args := #[x, y], argTypes := #[pt, it] }) (hp : P.underlying pt = some (.pointer el)) (hc1 : P.cellsOf el = 1) (hx : ρ x = SD id) (hy : ρ y = Is (.int .i64 (n : Int))) (hh : h id = some (.row el 1 n (l.map B))) :
    Valid P nid o ρ h ⟨Is (.string ⟨l.toArray⟩), [id], [(id, none)]⟩ where
  run := fun base σ κ h' a next Q hops hrd hr hb _ _ hk => by
    have h1 := hops x (by rw [ho]; simp [Op.operands, Call.operands])
    have h2 := hops y (by rw [ho]; simp [Op.operands, Call.operands])
    rw [hx] at h1; rw [hy] at h2
    obtain ⟨q, hu, hq⟩ := h1
    have h2 : a.eval y = .int .i64 (n : Int) := h2
    have hid : h' id = some (.row el 1 n (l.map B)) := by rw [hrd id (by simp), hh]
    obtain ⟨⟨hl, h3⟩, h4⟩ := hr.at_ id _ hid
    have hn : n = l.length := by simpa using hl.symm
    have run1 : ∀ v w, (Builtin.unsafeString_ #[pt, it] o.type #[a.eval x, a.eval y]).run P κ.w = .ok v w → (execOp a.eval o).run P κ.w = .ok (.value v) w := fun v w hr' => by
      unfold execOp
      rw [ho]
      simp only [resolve, invoke, builtin, Sem.run_bind, Sem.run_pure, Result.andThen_ok, List.map_toArray, List.map_cons, List.map_nil, hr']
    have drop : ∀ (κ' : Kw), κ.le κ' → (∀ g, blk (σ id) ≠ some g → κ'.own g = κ.own g ∧ κ'.w.heap[g]? = κ.w.heap[g]?) → HR base σ κ' (updl h' [(id, none)]) := fun κ' hle ho => by
      have hi : ∀ i c, updl h' [(id, none)] i = some c → i ≠ id ∧ h' i = some c := fun i c hc => by
        by_cases e : i = id
        · subst e; simp [updl, upd_same] at hc
        · exact ⟨e, by simpa [updl, upd_other _ _ _ _ e] using hc⟩
      have hi' : ∀ i, updl h' [(id, none)] i ≠ none → h' i ≠ none := fun i hc => by
        cases e : updl h' [(id, none)] i with
        | none => exact absurd e hc
        | some c => rw [(hi i c e).2]; simp
      refine ⟨fun i c hc => ?_, fun i j g hij h1 h2 => hr.far i j g hij (hi' i h1) (hi' j h2), fun i c g hc => hr.base i c g (hi i c hc).2⟩
      obtain ⟨hne, hc'⟩ := hi i c hc
      refine Chunk.keep hle (fun g hg => ?_) (hr.at_ i c hc')
      have := ho g (fun e => hr.far i id g hne (by rw [hc']; simp) (by rw [hid]; simp) hg e)
      exact ⟨this.2, this.1⟩
    by_cases h0 : n = 0
    · have hl0 : l = [] := List.length_eq_zero_iff.1 (by omega)
      subst hl0
      have hrun := run1 (.string .empty) κ.w (by rw [hu, h2, h0]; exact Lib.run_unsafeString_none κ.w pt it _ q)
      unfold Oper.wp
      rw [hrun]
      exact hk _ σ κ (Kw.le_refl κ) (fun _ _ => ⟨rfl, rfl⟩) (fun _ _ => rfl) rfl (drop κ (Kw.le_refl κ) fun _ _ => ⟨rfl, rfl⟩)
    · rcases h3 with ⟨_, hz⟩ | ⟨g, cap, cur, hv, h5, h6, h7, h8, h9, h10⟩
      · exact absurd hz h0
      · have hblk : blk (σ id) = some g := by rw [hv]; rfl
        have hqe := hq g n cap hv h0 h7
        have hcur : l.length ≤ cur.size := by omega
        have hcell : ∀ j x, l[j]? = some x → κ.w.cell? ((⟨g, 0, none⟩ : Addr).add j) = some (.int .u8 x.toNat) := fun j x hj => by
          have e : (⟨g, 0, none⟩ : Addr).add j = ⟨g, j, none⟩ := by unfold Addr.add; split <;> simp_all
          rw [e, cell_of_row _ _ _ _ _ _ h6]
          have hj' : j < l.length := (List.getElem?_eq_some_iff.1 hj).1
          have := congrArg (fun m : List Value => m[j]?) h10
          rw [List.getElem?_take, if_pos (by omega)] at this
          rw [List.getElem?_map, hj] at this
          rw [← Array.getElem?_toList, this]; rfl
        have hrun := run1 (.string ⟨l.toArray⟩) (κ.w.freeze ⟨g, 0, none⟩ l.length) (by rw [hu, h2, hqe, hn]; exact Lib.run_unsafeString_row κ.w pt it _ el hp hc1 g cur.size (by simp [World.shape?, h6]) l (fun e => by subst e; simp at hn; omega) hcur (by unfold maxLen at h8; omega) hcell)
        have hfz : ∀ b, b ≠ g → (κ.w.freeze ⟨g, 0, none⟩ l.length).heap[b]? = κ.w.heap[b]? := fun b hb' => by
          unfold World.freeze
          split
          · rfl
          · simp only [Array.getElem?_modify]; rw [if_neg (fun e => hb' e.symm)]
        have hsz : (κ.w.freeze ⟨g, 0, none⟩ l.length).heap.size = κ.w.heap.size := by unfold World.freeze; split <;> simp
        have hfc : ∀ j u, κ.w.cell? ⟨g, j, none⟩ = some u → (κ.w.freeze ⟨g, 0, none⟩ l.length).cell? ⟨g, j, none⟩ = some u := fun j u hj => by
          unfold World.freeze
          split
          · exact hj
          · simp only [World.cell?, Array.getElem?_modify, if_pos, h6, Option.map_some] at hj ⊢
            exact hj
        let κ' : Kw := ⟨κ.w.freeze ⟨g, 0, none⟩ l.length, κ.own, fun b k hb' => by rw [hsz]; exact κ.lt b k hb'⟩
        have hle : κ.le κ' := by
          refine ⟨?_, ?_, ?_, by show κ.w.heap.size ≤ _; rw [hsz]; exact Nat.le_refl _, fun b _ hb' => ⟨hb', hfz b (fun e => ?_)⟩, fun b k hb' => ⟨fun k' hk' => by have hk' : κ.own b = some k' := hk'; rw [hb'] at hk'; cases hk'; exact Nat.le_refl _, fun j u _ hu' => ?_⟩⟩
          · show (κ.w.freeze _ _).os = _; unfold World.freeze; split <;> rfl
          · show (κ.w.freeze _ _).tape = _; unfold World.freeze; split <;> rfl
          · show (κ.w.freeze _ _).output = _; unfold World.freeze; split <;> rfl
          · subst e; rw [h4 b hblk] at hb'; cases hb'
          · by_cases e : b = g
            · subst e; exact hfc j u hu'
            · simp only [World.cell?] at hu' ⊢
              rw [show κ'.w.heap[b]? = κ.w.heap[b]? from hfz b e]; exact hu'
        unfold Oper.wp
        rw [hrun]
        refine hk _ σ κ' hle (fun b hb' => ⟨rfl, hfz b (fun e => ?_)⟩) (fun _ _ => rfl) rfl (drop κ' hle fun b hb' => ⟨rfl, hfz b (fun e => hb' (by rw [hblk, e]))⟩)
        subst e
        exact hr.base id _ b hid hblk hb'
  sup := fun U _ _ => ⟨fun s hs => (by cases hs), fun i c hc => by
    simp only [List.mem_singleton, Prod.mk.injEq] at hc
    cases hc.2⟩
  wr := fun x hx => by
    simp only [List.mem_singleton] at hx
    subst hx
    exact .inl ⟨by simp, by rw [hh]; simp⟩
end
section
variable {P : Program} {nid : Nat} {o : Oper} {ρ : Operand → AV} {h : Heap}
theorem Valid.min3 {x y z : Operand} {ts : Array TypeId} {k : IntKind} {a b c : Int} (ho : o.op = .call { callee := .builtin .min, args := #[x, y, z], argTypes := ts }) (hx : ρ x = Is (.int k a)) (hy : ρ y = Is (.int k b)) (hz : ρ z = Is (.int k c)) :
    Valid P nid o ρ h ⟨Is (.int k (Min.min a (Min.min b c))), [], []⟩ :=
  .known _ fun ev w hev => by
    have h1 := hev x (by rw [ho]; simp [Op.operands, Call.operands]) _ hx
    have h2 := hev y (by rw [ho]; simp [Op.operands, Call.operands]) _ hy
    have h3 := hev z (by rw [ho]; simp [Op.operands, Call.operands]) _ hz
    have e : ∀ a b : Int, (if b < a then b else a) = Min.min a b := fun a b => by rw [Int.min_def]; split <;> split <;> omega
    unfold execOp
    rw [ho]
    simp [resolve, invoke, builtin, Builtin.min_, Builtin.min2, h1, h2, h3, e]
/-- an element of an array that stands in a row -/
theorem Valid.idxelt {x y : Operand} {t el : TypeId} {e n : Nat} {vs : List Value} {k : IntKind} {i : Int} (ho : o.op = .indexAddr t x y) (ht : P.underlying t = some (.array n el)) (hsz : ∀ w, (sizeOf el).run P w = .ok e w) (hx : ρ x = Elt vs) (hy : ρ y = Is (.int k i)) (hi : 0 ≤ i ∧ i < n) :
    Valid P nid o ρ h ⟨Elt (vs.drop (i.toNat * e)), [], []⟩ :=
  .quiet _ (nosup rfl) fun σ κ a hops => by
    have h1 := hops x (by rw [ho]; simp [Op.operands])
    have h2 := hops y (by rw [ho]; simp [Op.operands])
    rw [hx] at h1; rw [hy] at h2
    have h2 : a.eval y = .int k i := h2
    obtain ⟨ad, hu, hrd⟩ := h1
    refine ⟨.pointer (some (ad.add (i.toNat * e))), ?_, ad.add (i.toNat * e), rfl, ?_⟩
    · unfold execOp
      rw [ho]
      simp [hu, h2, Instr.indexAt, Instr.sureAddr, asIntOf, run_underlying ht, hsz, hi.1, hi.2, Result.andThen]
    · intro j u hj
      rw [List.getElem?_drop] at hj
      obtain ⟨s1, s2, s3⟩ := hrd _ u hj
      rw [add_eq s1]
      exact ⟨rfl, by rw [Nat.add_assoc]; exact s2, fun m hm => by have := s3 m hm; simp only; omega⟩
end
def prs (l : List (Int × Int)) : List Value := l.flatMap fun p => [.int .i64 p.1, .int .i64 p.2]
theorem prs_len (l : List (Int × Int)) : (prs l).length = l.length * 2 := by
  induction l with
  | nil => rfl
  | cons p l ih => rw [prs, List.flatMap_cons, List.length_append, ← prs, ih]; simp; omega
theorem prs_at : ∀ (l : List (Int × Int)) (i : Nat) (h : i < l.length), (prs l)[i * 2]? = some (.int .i64 l[i].1) ∧ (prs l)[i * 2 + 1]? = some (.int .i64 l[i].2)
  | [], i, h => by simp at h
  | p :: l, 0, _ => ⟨rfl, rfl⟩
  | p :: l, i + 1, h => by
    have ih := prs_at l i (by simpa using h)
    have e : prs (p :: l) = .int .i64 p.1 :: .int .i64 p.2 :: prs l := rfl
    rw [e, show (i + 1) * 2 = i * 2 + 1 + 1 by omega]
    simpa using ih
theorem prs_cut (l : List (Int × Int)) (i : Nat) (h : i < l.length) : ((prs l).drop (i * 2)).take 2 = [.int .i64 (l.getD i (0, 0)).1, .int .i64 (l.getD i (0, 0)).2] := by
  obtain ⟨h1, h2⟩ := prs_at l i h
  have hl := prs_len l
  rw [List.getD_eq_getElem?_getD, List.getElem?_eq_getElem h]
  obtain ⟨h3, h4⟩ := List.getElem?_eq_some_iff.1 h1
  obtain ⟨h5, h6⟩ := List.getElem?_eq_some_iff.1 h2
  rw [List.drop_eq_getElem_cons h3, List.drop_eq_getElem_cons h5, h4, h6]
  rfl
/-- an element of a row of arrays of two numbers -/
theorem Valid.eltA {P : Program} {nid : Nat} {o : Oper} {ρ : Operand → AV} {h : Heap} {x y : Operand} {t el : TypeId} {n : Nat} {L : List (Int × Int)} {k : IntKind} {i : Int} (ho : o.op = .indexAddr t x y) (ht : P.underlying t = some (.slice el)) (hsz : ∀ w, (sizeOf el).run P w = .ok 2 w) (hx : Reads (ρ x) 2 n (prs L)) (hy : ρ y = Is (.int k i)) (hi : 0 ≤ i ∧ i < n) (hl : n = L.length) :
    Valid P nid o ρ h ⟨Elt [.int .i64 (L.getD i.toNat (0, 0)).1, .int .i64 (L.getD i.toNat (0, 0)).2], [], []⟩ := by
  have hv := Valid.eltaddr (P := P) (nid := nid) (h := h) ho ht hsz hx hy hi
  rwa [prs_cut L i.toNat (by omega)] at hv
end Ab
end Go.Proofs.Ytmilegikgbmjpaa
