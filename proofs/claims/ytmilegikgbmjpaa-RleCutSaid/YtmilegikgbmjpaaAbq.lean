/-
  BUFFERS over abstract states: a slice of the call's own whose cells are written, copied and cut.
-/
import Derived.Laws.StandIn
import Derived.Lib.BytesEntry
import Derived.Lib.IndexLaws
import Derived.Laws.IdiomCopy
import Derived.Test.YtmilegikgbmjpaaAbp
namespace Go.Proofs.Ytmilegikgbmjpaa
open Go.RowKit
namespace Ab
def Buf (id n : Nat) : AV := ⟨fun σ _ u => u = σ id ∧ ∃ b c, u = .slice (some ⟨b, 0, none⟩) n c ∧ n ≤ c, [id],
  fun hs ⟨h1, h2⟩ => ⟨h1.trans (hs id (by simp)).symm, h2⟩, fun _ h => h⟩
/-- a part of a buffer -/
def Bsub (id off n : Nat) : AV := ⟨fun σ _ u => ∃ b n' c' off' k, σ id = .slice (some ⟨b, 0, none⟩) n' c' ∧ u = .slice (some ⟨b, off', none⟩) n k ∧ (off' = off ∨ n = 0), [id],
  fun hs ⟨b, n', c', off', k, h1, h2⟩ => ⟨b, n', c', off', k, (hs id (by simp)).trans h1, h2⟩, fun _ h => h⟩
def Bptr (id off : Nat) : AV := ⟨fun σ _ u => ∃ b n' c', σ id = .slice (some ⟨b, 0, none⟩) n' c' ∧ u = .pointer (some ⟨b, off, none⟩), [id],
  fun hs ⟨b, n', c', h1, h2⟩ => ⟨b, n', c', (hs id (by simp)).trans h1, h2⟩, fun _ h => h⟩
/-- a slice of so many -/
def SlN (n : Nat) : AV := ⟨fun _ _ u => ∃ a c, u = .slice a n c, [], fun _ h => h, fun _ h => h⟩
theorem leq_buf {θ : Nat → Nat} {A B : AV} {id id' n n' : Nat} (h : A = Buf id n) (h' : B = Buf id' n') (hθ : Nat.beq (θ id') id = true) (e : n = n') : A.leq θ B := fun σ κ u hu => by
  subst h h' e
  have := Nat.eq_of_beq_eq_true hθ
  subst this; exact hu
theorem up_buf {θ : Nat → Nat} {id id' n : Nat} (h : Nat.beq (θ id) id' = true) : AV.up θ (Buf id n) (Buf id' n) := by
  have := Nat.eq_of_beq_eq_true h
  subst this; exact fun _ _ _ h => h
theorem cup_buf {θ : Nat → Nat} {t : TypeId} {l : List Value} : ChunkUp θ (.buf t l) (.buf t l) := fun _ _ _ h => h
theorem hp_buf {hp : Heap} {θ : Nat → Nat} {k : Nat} {t : TypeId} {l l' : List Value} (h : hp (θ k) = some (.buf t l)) (e : l = l') : ∃ c, hp (θ k) = some c ∧ Chunk.leq θ c (.buf t l') := ⟨_, h, .buf e⟩
theorem One.buf {A : AV} {id n : Nat} (h : A = Buf id n) : One A := fun σ κ u hu => by
  subst h
  obtain ⟨_, b, c, rfl, _⟩ := hu
  exact ⟨rfl, rfl⟩
theorem storeCells_fr {P : Program} (g o : Nat) (t : TypeId) (fr : Nat × Nat) : ∀ (vs : List Value) (i : Nat) (cur : Array Value) (w : World), w.heap[g]? = some (.cells cur t fr) → (∀ j, o + i ≤ j → j < o + i + vs.length → ¬ (fr.1 ≤ j ∧ j < fr.2)) → o + i + vs.length ≤ cur.size → (∀ v ∈ vs, v.oneCell' = true) →
    (storeCells ⟨g, o, none⟩ vs i).run P w = .ok () (w.setRow g (cur.toList.take (o + i) ++ vs ++ cur.toList.drop (o + i + vs.length)).toArray)
  | [], i, cur, w, hg, _, _, _ => by
    simp only [storeCells, List.append_nil, List.length_nil, Nat.add_zero, List.take_append_drop, Array.toArray_toList]
    rw [setRow_self w g cur t fr hg]
    rfl
  | v :: rest, i, cur, w, hg, hf, hl, h1 => by
    have hi : o + i < cur.size := by simp at hl; omega
    have hadd : (⟨g, o, none⟩ : Addr).add i = ⟨g, o + i, none⟩ := by unfold Addr.add; split <;> simp_all
    have hcell : w.cell? ⟨g, o + i, none⟩ = some cur[o + i] := by simp [World.cell?, hg, hi]
    have hfro : w.frozen? ⟨g, o + i, none⟩ = false := by
      have := hf (o + i) (Nat.le_refl _) (by simp)
      simp only [World.frozen?, hg]
      simpa using this
    have hst : (store ((⟨g, o, none⟩ : Addr).add i) v).run P w = .ok () (w.setRow g (cur.setIfInBounds (o + i) v)) := by
      rw [hadd, run_store P w _ v _ (h1 v (by simp)), hcell]
      simp [hfro, setCell_eq_setRow w g (o + i) cur t fr v hg]
    have ih := storeCells_fr (P := P) g o t fr rest (i + 1) (cur.setIfInBounds (o + i) v) (w.setRow g (cur.setIfInBounds (o + i) v)) (setRow_heap w g cur _ t _ hg) (fun j h2 h3 => hf j (by omega) (by simp at h3 ⊢; omega)) (by simp at hl ⊢; omega) (fun x hx => h1 x (by simp [hx]))
    simp only [storeCells, Sem.run_bind, hst, Result.andThen_ok, ih, setRow_setRow]
    congr 3
    have e := list_seg_step cur.toList (o + i) v rest (by simp at hl ⊢; omega)
    simpa [Array.toList_setIfInBounds, Nat.add_assoc] using e
theorem cut_app (l tl vs : List Value) (off : Nat) (h : off + vs.length ≤ l.length) : (l ++ tl).take off ++ vs ++ (l ++ tl).drop (off + vs.length) = l.take off ++ vs ++ l.drop (off + vs.length) ++ tl := by
  rw [List.take_append_of_le_length (by omega), List.drop_append_of_le_length h]
  simp [List.append_assoc]
section
variable {P : Program} {nid : Nat} {o : Oper} {ρ : Operand → AV} {h : Heap}
theorem Valid.bufread {id : Nat} {t : TypeId} {l : List Value} (A : AV) (hA : A.sup = []) (hh : h id = some (.buf t l))
    (hrun : ∀ σ (κ : Kw) (a : Act), (∀ x ∈ o.op.operands, (ρ x).p σ κ (a.eval x)) → (Chunk.buf t l).at σ κ (σ id) → ∃ v, (execOp a.eval o).run P κ.w = .ok (.value v) κ.w ∧ A.p σ κ v) : Valid P nid o ρ h ⟨A, [id], []⟩ where
  run := fun base σ κ h' a next Q hops hrd hr hb _ _ hk => by
    obtain ⟨v, hv, hAv⟩ := hrun σ κ a hops (hr.at_ id (.buf t l) (by rw [hrd id (by simp), hh]))
    unfold Oper.wp
    rw [hv]
    exact hk v σ κ (Kw.le_refl κ) (fun _ _ => ⟨rfl, rfl⟩) (fun _ _ => rfl) hAv hr
  sup := fun U _ _ => ⟨nosup hA, fun i c hc => by cases hc⟩
  wr := fun x hx => by cases hx
theorem Valid.bufset {id : Nat} {t : TypeId} {l l' : List Value} (v0 : Value) (hh : h id = some (.buf t l)) (hlen : l'.length = l.length)
    (hrun : ∀ σ (κ : Kw) (a : Act), (∀ x ∈ o.op.operands, (ρ x).p σ κ (a.eval x)) → ∀ b tl fr c, σ id = .slice (some ⟨b, 0, none⟩) l.length c → κ.w.heap[b]? = some (.cells (l ++ tl).toArray t fr) → (∀ j, j < l.length → ¬ (fr.1 ≤ j ∧ j < fr.2)) →
      ((execOp a.eval o).run P κ.w = .ok .skip (κ.w.setRow b (l' ++ tl).toArray) ∧ v0 = undef) ∨ (execOp a.eval o).run P κ.w = .ok (.value v0) (κ.w.setRow b (l' ++ tl).toArray)) :
    Valid P nid o ρ h ⟨Is v0, [id], [(id, some (.buf t l'))]⟩ where
  run := fun base σ κ h' a next Q hops hrd hr hb _ _ hk => by
    have hid : h' id = some (.buf t l) := by rw [hrd id (by simp), hh]
    have h2 := hr.at_ id (.buf t l) hid
    obtain ⟨b, tl, fr, c, hσ, hheap, hfr, hc1, hc2, hown⟩ := h2
    have hblk : blk (σ id) = some b := by rw [hσ]; rfl
    have hlt : b < κ.w.heap.size := κ.lt b 0 hown
    have hbb : ¬ base b := hr.base id _ b hid hblk
    let κ' : Kw := ⟨κ.w.setRow b (l' ++ tl).toArray, κ.own, fun g k hg => by rw [size_setRow]; exact κ.lt g k hg⟩
    have hle : κ.le κ' := ⟨rfl, rfl, rfl, by show κ.w.heap.size ≤ _; rw [size_setRow]; exact Nat.le_refl _,
      fun g _ hg => ⟨hg, setRow_other _ _ _ _ (fun e => by subst e; rw [hown] at hg; cases hg)⟩,
      fun g k hg => ⟨fun k' hk' => by have : κ.own g = some k' := hk'; rw [hg] at this; cases this; exact Nat.le_refl _, fun j u hj hu => by
        have hgb : g ≠ b := fun e => by subst e; rw [hown] at hg; cases hg; omega
        simp only [World.cell?] at hu ⊢
        rw [show κ'.w.heap[g]? = κ.w.heap[g]? from setRow_other _ _ _ _ hgb]
        exact hu⟩⟩
    have hupd : upd σ id (σ id) = σ := by
      funext i
      by_cases e : i = id
      · subst e; rw [upd_same]
      · rw [upd_other _ _ _ _ e]
    have hres := hr.set hle id (σ id) (.buf t l') (fun _ => false)
        (fun i d hd hne _ g hg => ⟨setRow_other _ _ _ _ (fun e => by subst e; exact hr.far i id g hne (by rw [hd]; simp) (by rw [hid]; simp) hg hblk), rfl⟩)
        (by
          rw [hupd]
          exact ⟨b, tl, fr, c, by rw [hσ, hlen], setRow_heap _ _ _ _ _ _ hheap, by rw [hlen]; exact hfr, by rw [hlen]; exact hc1, hc2, hown⟩)
        (fun i g hi hne _ hg => fun e => hr.far i id g hne hi (by rw [hid]; simp) hg e)
        (fun g hg => hr.base id _ g hid hg)
        (fun i d hd hne _ j hj => by rw [hupd]) (updl h' [(id, some (.buf t l'))]) (upd_same _ _ _) (fun i hi _ => upd_other _ _ _ _ hi) (fun i _ hf => by cases hf)
    rw [hupd] at hres
    unfold Oper.wp
    rcases hrun σ κ a hops b tl fr c hσ hheap hfr with ⟨h3, rfl⟩ | h3
    · rw [h3]
      exact hk undef σ κ' hle (fun g hg => ⟨rfl, setRow_other _ _ _ _ (fun e => hbb (e ▸ hg))⟩) (fun _ _ => rfl) rfl hres
    · rw [h3]
      exact hk v0 σ κ' hle (fun g hg => ⟨rfl, setRow_other _ _ _ _ (fun e => hbb (e ▸ hg))⟩) (fun _ _ => rfl) rfl hres
  sup := fun U hV hU => ⟨nosup rfl, fun i c hc s hs => by
    simp only [List.mem_singleton, Prod.mk.injEq, Option.some.injEq] at hc
    obtain ⟨_, rfl⟩ := hc
    cases hs⟩
  wr := fun x hx => by simp at hx; subst hx; exact .inl ⟨by simp, by rw [hh]; simp⟩
theorem Valid.lenB {x : Operand} {t : TypeId} {id n : Nat} {el : TypeId} (ho : o.op = .call { callee := .builtin .len, args := #[x], argTypes := #[t] }) (ht : P.underlying t = some (.slice el)) (hx : ρ x = Buf id n) :
    Valid P nid o ρ h ⟨Is (.int .i64 (n : Int)), [], []⟩ :=
  .quiet _ (nosup rfl) fun σ κ a hops => by
    have h1 := hops x (by rw [ho]; simp [Op.operands, Call.operands])
    rw [hx] at h1
    obtain ⟨_, b, c, hu, _⟩ := h1
    refine ⟨.int .i64 (n : Int), ?_, rfl⟩
    unfold execOp
    rw [ho]
    simp [resolve, invoke, builtin, Builtin.len_, run_underlying ht, hu, goInt, Result.andThen]
theorem Valid.idxB {x y : Operand} {t el : TypeId} {n id : Nat} {k : IntKind} {i : Int} (ho : o.op = .indexAddr t x y) (ht : P.underlying t = some (.slice el)) (hsz : ∀ w, (sizeOf el).run P w = .ok 1 w) (hx : ρ x = Buf id n) (hy : ρ y = Is (.int k i)) (hi : 0 ≤ i ∧ i < n) :
    Valid P nid o ρ h ⟨Bptr id i.toNat, [], []⟩ :=
  .quiet _ (fun s hs => ⟨x, by rw [ho]; simp [Op.operands], by rw [hx]; exact hs⟩) fun σ κ a hops => by
    have h1 := hops x (by rw [ho]; simp [Op.operands])
    have h2 := hops y (by rw [ho]; simp [Op.operands])
    rw [hx] at h1; rw [hy] at h2
    obtain ⟨hσ, b, c, hu, _⟩ := h1
    have h2 : a.eval y = .int k i := h2
    refine ⟨.pointer (some ⟨b, i.toNat, none⟩), ?_, b, n, c, by rw [← hσ, hu], rfl⟩
    unfold execOp
    rw [ho]
    simp [hu, h2, Instr.indexAt, asIntOf, run_underlying ht, hsz, hi.1, hi.2, Result.andThen, Addr.add]
    exact fun h => (by omega)
theorem Valid.loadB {G : Type} {f : G → Value} {l : List G} {t t0 : TypeId} {x : Operand} {id off : Nat} (d : G) (ho : o.op = .load t x) (hag : ∀ w, (isAgg t).run P w = .ok false w) (hx : ρ x = Bptr id off) (hh : h id = some (.buf t0 (l.map f))) (hi : off < l.length) :
    Valid P nid o ρ h ⟨Is (f (l.getD off d)), [id], []⟩ :=
  .bufread _ rfl hh fun σ κ a hops hat => by
    have h1 := hops x (by rw [ho]; simp [Op.operands])
    rw [hx] at h1
    obtain ⟨b, n', c', hσ, hu⟩ := h1
    obtain ⟨b2, tl, fr, c, hσ2, hheap, _⟩ := hat
    rw [hσ] at hσ2
    simp only [Value.slice.injEq, Option.some.injEq, Addr.mk.injEq] at hσ2
    obtain ⟨⟨rfl, _⟩, _⟩ := hσ2
    refine ⟨_, ?_, rfl⟩
    have hc : κ.w.cell? ⟨b, off, none⟩ = some (f (l.getD off d)) := by
      rw [cell_of_row _ _ _ _ _ _ hheap]
      have hj : off < (l.map f).length := by simpa using hi
      simp only [List.getElem?_toArray]
      rw [List.getElem?_append_left hj, List.getElem?_map, List.getElem?_eq_getElem hi, getD_lt l off d hi]
      rfl
    unfold execOp
    rw [ho]
    simp only [hu, Instr.loadAt, Instr.sureAddr, Sem.run_bind, Sem.run_pure, Result.andThen_ok, loadVar, hag]
    simp [Go.load, Sem.run, hc, Result.andThen]
theorem Valid.storeB {G : Type} {f : G → Value} {l : List G} {t t0 : TypeId} {x y : Operand} {id off : Nat} (v : G) (ho : o.op = .store t x y) (hsz : ∀ w, (sizeOf t).run P w = .ok 1 w) (hx : ρ x = Bptr id off) (hh : h id = some (.buf t0 (l.map f))) (hi : off < l.length) (hy : ρ y = Is (f v)) (h1 : One (ρ y)) :
    Valid P nid o ρ h ⟨Is undef, [id], [(id, some (.buf t0 ((l.set off v).map f)))]⟩ :=
  .bufset undef hh (by simp) fun σ κ a hops b tl fr c hσ hheap hfr => .inl ⟨by
    have h2 := hops x (by rw [ho]; simp [Op.operands])
    rw [hx] at h2
    obtain ⟨b2, n', c', hσ2, hu⟩ := h2
    rw [hσ] at hσ2
    simp only [Value.slice.injEq, Option.some.injEq, Addr.mk.injEq] at hσ2
    obtain ⟨⟨rfl, _⟩, _⟩ := hσ2
    have h3 := hops y (by rw [ho]; simp [Op.operands])
    obtain ⟨h4, h5⟩ := h1 _ _ _ h3
    rw [hy] at h3
    have h3 : a.eval y = f v := h3
    rw [h3] at h4 h5
    have hst := storeCells_fr (P := P) b off t0 fr [f v] 0 (l.map f ++ tl).toArray κ.w hheap (fun j h6 h7 => hfr j (by simp at h6 h7 ⊢; omega)) (by simp; omega) (fun u hu => by simp at hu; subst hu; exact h4)
    have e := cut_app (l.map f) tl [f v] off (by simp; omega)
    have e2 : (l.map f).take off ++ [f v] ++ (l.map f).drop (off + 1) = (l.set off v).map f := by
      rw [List.map_set, List.set_eq_take_append_cons_drop, if_pos (by simpa using hi)]
      simp
    simp only [Nat.add_zero] at hst
    rw [e, show ([f v] : List Value).length = 1 from rfl, e2] at hst
    unfold execOp
    rw [ho]
    simp only [hu, h3, Instr.storeAt, Instr.sureAddr, Sem.run_bind, Sem.run_pure, Result.andThen_ok, storeVar, hsz, h5]
    simp only [show (#[f v] : Array Value).size = 1 from rfl, ne_eq, not_true_eq_false, if_false, hst]
    rfl, rfl⟩
theorem Valid.cutB {x y z : Operand} {t el : TypeId} {id n : Nat} {k k' : IntKind} {i j : Int} (ho : o.op = .slice t x (some y) (some z) none) (ht : P.underlying t = some (.slice el)) (hsz : ∀ w, (sizeOf el).run P w = .ok 1 w) (hx : ρ x = Buf id n) (hy : ρ y = Is (.int k i)) (hz : ρ z = Is (.int k' j))
    (hi : 0 ≤ i ∧ i ≤ j ∧ j ≤ n) : Valid P nid o ρ h ⟨Bsub id i.toNat (j.toNat - i.toNat), [], []⟩ :=
  .quiet _ (fun s hs => ⟨x, by rw [ho]; simp [Op.operands], by rw [hx]; exact hs⟩) fun σ κ a hops => by
    have h1 := hops x (by rw [ho]; simp [Op.operands])
    have h2 := hops y (by rw [ho]; simp [Op.operands])
    have h3 := hops z (by rw [ho]; simp [Op.operands])
    rw [hx] at h1; rw [hy] at h2; rw [hz] at h3
    obtain ⟨hσ, b, c, hu, hc⟩ := h1
    have h2 : a.eval y = .int k i := h2
    have h3 : a.eval z = .int k' j := h3
    have e1 : (Instr.sliceBound (.int k' j) c .sliceAcap).run P κ.w = .ok j.toNat κ.w := run_sliceBound k' j c _ (by omega) (by omega) _
    have e2 : (Instr.sliceBound (.int k i) j.toNat .sliceB).run P κ.w = .ok i.toNat κ.w := run_sliceBound k i j.toNat _ (by omega) (by omega) _
    have hrun : ∀ s : Value, s = .slice (if c - i.toNat = 0 then some ⟨b, 0, none⟩ else some ⟨b, i.toNat, none⟩) (j.toNat - i.toNat) (c - i.toNat) → (execOp a.eval o).run P κ.w = .ok (.value s) κ.w := fun s hs => by
      subst hs
      unfold execOp
      rw [ho]
      simp [hu, h2, h3, Instr.sliceAt, Instr.slice, Instr.sliceBounds, run_underlying ht, e1, e2, hsz, Result.andThen, Addr.add]
      by_cases hz : c = i.toNat
      · simp [hz]
      · have : ¬ (c - i.toNat = 0) := by omega
        simp [hz, this]
        exact fun h => (by omega)
    refine ⟨_, hrun _ rfl, b, n, c, if c - i.toNat = 0 then 0 else i.toNat, c - i.toNat, by rw [← hσ, hu], ?_, ?_⟩
    · split <;> rfl
    · split
      · exact .inr (by omega)
      · exact .inl rfl
theorem Valid.cutBto {x z : Operand} {t el : TypeId} {id n : Nat} {k' : IntKind} {j : Int} (ho : o.op = .slice t x none (some z) none) (ht : P.underlying t = some (.slice el)) (hsz : ∀ w, (sizeOf el).run P w = .ok 1 w) (hx : ρ x = Buf id n) (hz : ρ z = Is (.int k' j))
    (hi : 0 ≤ j ∧ j ≤ n) : Valid P nid o ρ h ⟨Bsub id 0 j.toNat, [], []⟩ :=
  .quiet _ (fun s hs => ⟨x, by rw [ho]; simp [Op.operands], by rw [hx]; exact hs⟩) fun σ κ a hops => by
    have h1 := hops x (by rw [ho]; simp [Op.operands])
    have h3 := hops z (by rw [ho]; simp [Op.operands])
    rw [hx] at h1; rw [hz] at h3
    obtain ⟨hσ, b, c, hu, hc⟩ := h1
    have h3 : a.eval z = .int k' j := h3
    have e1 : (Instr.sliceBound (.int k' j) c .sliceAcap).run P κ.w = .ok j.toNat κ.w := run_sliceBound k' j c _ (by omega) (by omega) _
    refine ⟨.slice (some ⟨b, 0, none⟩) j.toNat c, ?_, b, n, c, 0, c, by rw [← hσ, hu], rfl, .inl rfl⟩
    unfold execOp
    rw [ho]
    simp [hu, h3, Instr.sliceAt, Instr.slice, Instr.sliceBounds, run_underlying ht, e1, hsz, Result.andThen, Addr.add]
theorem run_copy_fr (w : World) (dT sT ty elem : TypeId) (g o dLen dCap : Nat) (a : Addr) (sLen sCap : Nat) (cur : Array Value) (t : TypeId) (fr : Nat × Nat) (cs : List Value)
    (hu : P.underlying dT = some (.slice elem)) (hs : (P.info? elem).map (·.size) = some 1)
    (hg : w.heap[g]? = some (.cells cur t fr)) (hf : ∀ j, o ≤ j → j < o + cs.length → ¬ (fr.1 ≤ j ∧ j < fr.2)) (hn : cs.length = Nat.min sLen dLen)
    (hsrc : ∀ j v, cs[j]? = some v → w.cell? (a.add j) = some v) (hfit : o + cs.length ≤ cur.size) (h1 : ∀ v ∈ cs, v.oneCell' = true) :
    (Builtin.copy_ #[dT, sT] ty #[.slice (some ⟨g, o, none⟩) dLen dCap, .slice (some a) sLen sCap]).run P w =
      .ok (goInt cs.length) (w.setRow g (cur.toList.take o ++ cs ++ cur.toList.drop (o + cs.length)).toArray) := by
  have hl := run_loadCells_list (P := P) w a cs hsrc
  have hst := storeCells_fr (P := P) g o t fr cs 0 cur w hg (by simpa using hf) (by simpa using hfit) h1
  cases hq : P.info? elem with
  | none => simp [hq] at hs
  | some i =>
    have hi : i.size = 1 := by simpa [hq] using hs
    simp only [Nat.add_zero] at hst
    simp [Builtin.copy_, run_underlying hu, Builtin.lenOf, Builtin.firstCells, sizeOf, typeInfo, hq, hi, ← hn, hl, hst]
/-- copy, of one part of a buffer to another one -/
theorem Valid.copyB {x y : Operand} {t s el t0 : TypeId} {id o1 o2 n m : Nat} {l : List Value} (ho : o.op = .call { callee := .builtin .copy, args := #[x, y], argTypes := #[t, s] }) (ht : P.underlying t = some (.slice el)) (hs : (P.info? el).map (·.size) = some 1)
    (hx : ρ x = Bsub id o1 n) (hy : ρ y = Bsub id o2 m) (hh : h id = some (.buf t0 l)) (e : n = m) (h1 : o1 + n ≤ l.length) (h2 : o2 + n ≤ l.length) (hone : ∀ v ∈ l, v.oneCell' = true) :
    Valid P nid o ρ h ⟨Is (.int .i64 (n : Int)), [id], [(id, some (.buf t0 (l.take o1 ++ (l.drop o2).take n ++ l.drop (o1 + n))))]⟩ :=
  .bufset _ hh (by simp; omega) fun σ κ a hops b tl fr c hσ hheap hfr => .inr (by
    subst e
    have k1 := hops x (by rw [ho]; simp [Op.operands, Call.operands])
    have k2 := hops y (by rw [ho]; simp [Op.operands, Call.operands])
    rw [hx] at k1; rw [hy] at k2
    obtain ⟨b1, n1, c1, off1, cap1, hσ1, hu1, ho1⟩ := k1
    obtain ⟨b2, n2, c2, off2, cap2, hσ2, hu2, ho2⟩ := k2
    rw [hσ] at hσ1 hσ2
    simp only [Value.slice.injEq, Option.some.injEq, Addr.mk.injEq] at hσ1 hσ2
    obtain ⟨⟨rfl, _⟩, _⟩ := hσ1
    obtain ⟨⟨rfl, _⟩, _⟩ := hσ2
    unfold execOp
    rw [ho]
    have key : (Builtin.copy_ #[t, s] o.type #[a.eval x, a.eval y]).run P κ.w = .ok (goInt n) (κ.w.setRow b (l.take o1 ++ (l.drop o2).take n ++ l.drop (o1 + n) ++ tl).toArray) := by
      rw [hu1, hu2]
      by_cases hz : n = 0
      · subst hz
        rw [run_copy_none κ.w t s o.type el _ _ 0 cap1 0 cap2 ht hs (by simp)]
        simp only [List.take_zero, List.append_nil, Nat.add_zero, List.take_append_drop]
        rw [setRow_self _ _ _ _ _ hheap]; rfl
      · obtain rfl : off1 = o1 := by omega
        obtain rfl : off2 = o2 := by omega
        have hl : ((l.drop off2).take n).length = n := by simp; omega
        have hr := run_copy_fr κ.w t s o.type el b off1 n cap1 ⟨b, off2, none⟩ n cap2 (l ++ tl).toArray t0 fr ((l.drop off2).take n) ht hs hheap (fun j h6 h7 => hfr j (by omega)) (by rw [hl]; simp)
          (fun j v hj => by
            have hjn : j < n := by have := (List.getElem?_eq_some_iff.1 hj).1; omega
            have e : (⟨b, off2, none⟩ : Addr).add j = ⟨b, off2 + j, none⟩ := by unfold Addr.add; split <;> simp_all
            rw [e, cell_of_row _ _ _ _ _ _ hheap, List.getElem?_toArray, List.getElem?_append_left (by omega), ← hj, List.getElem?_take_of_lt hjn, List.getElem?_drop])
          (by simp; omega) (fun v hv => hone v (List.mem_of_mem_drop (List.mem_of_mem_take hv)))
        rw [hr, hl]
        have e := cut_app l tl ((l.drop off2).take n) off1 (by omega)
        rw [hl] at e
        rw [show (l ++ tl).toArray.toList = l ++ tl from rfl, e]
    simp [resolve, invoke, builtin, Result.andThen] at *
    simp [key, goInt])
/-- the bytes of a string, to be written -/
theorem Valid.tobuf {x : Operand} {t st el : TypeId} {s : ByteArray} (ho : o.op = .convert st t x) (ht : P.underlying t = some (.slice el)) (he : P.underlying el = some (.int .u8)) (hst : P.underlying st = some .string) (hx : ρ x = Is (.string s)) (hs : s.size ≤ 1000000000000) :
    Valid P nid o ρ h ⟨Buf (8 * nid) s.size, [], [(8 * nid, some (.buf el (s.data.toList.map B)))]⟩ where
  run := fun base σ κ h' a next Q hops _ hr hb' hsn hfr hk => by
    have h1 := hops x (by rw [ho]; simp [Op.operands])
    rw [hx] at h1
    have h1 : a.eval x = .string s := h1
    have hrun := run_bytes_of_string (P := P) κ.w st t el s hst ht he
    have hge := grownCap_ge κ.w s.size 0 el
    have hcap := grownCap_le_maxLen κ.w s.size 0 el (by simp only [maxLen]; omega)
    let cap := grownCap κ.w s.size 0 el
    let ob : Obj := .cells (bytesRow s cap) el ((bytesRow s cap).size, (bytesRow s cap).size + 1)
    let κd : Kw := ⟨κ.w.drew, κ.own, κ.lt⟩
    have hv : (execOp a.eval o).run P κ.w = .ok (.value (.slice (some ⟨κ.w.heap.size, 0, none⟩) s.size cap)) (κ.w.drew.alloc ob) := by
      unfold execOp
      rw [ho]
      simp only [h1, hrun, Sem.run_bind, Result.andThen_ok, Sem.run_pure]
      rfl
    have hrow : bytesRow s cap = (s.data.toList.map B ++ List.replicate (cap - s.size) (Value.int .u8 0)).toArray := by
      apply Array.ext'
      simp [bytesRow, B]
    have hid : 8 * nid / 8 = nid := by omega
    have hle : κ.le (κd.new ob (some 0)) := Kw.le_trans κ.drew_le (κd.new_le _ _)
    have hlen : (s.data.toList.map B).length = s.size := by simp
    unfold Oper.wp
    rw [hv]
    exact hk _ (upd σ (8 * nid) (.slice (some ⟨κ.w.heap.size, 0, none⟩) s.size cap)) (κd.new ob (some 0)) hle (fun b hb2 => κd.new_old _ _ b (hb' b hb2)) (fun i hi => upd_other _ _ _ _ (fun e => hi (by omega)))
      ⟨(upd_same _ _ _).symm, κ.w.heap.size, cap, rfl, hge⟩
      (hr.set hle (8 * nid) (.slice (some ⟨κ.w.heap.size, 0, none⟩) s.size cap) (.buf el (s.data.toList.map B)) (fun _ => false)
        (fun i d hd _ _ g hg => by have := κd.new_old ob (some 0) g (blk_lt hr hd hg); exact ⟨this.2, this.1⟩)
        ⟨κ.w.heap.size, List.replicate (cap - s.size) (Value.int .u8 0), _, cap, by rw [hlen], by rw [← hrow]; exact (κd.new_at _ _).1, fun j hj hf => by
          rw [hrow] at hf
          simp only [List.size_toArray, List.length_append, List.length_replicate] at hf
          omega, by rw [hlen]; exact hge, hcap, (κd.new_at _ _).2⟩
        (fun i g hi _ _ hg he => by
          cases hx : h' i with
          | none => exact hi hx
          | some d =>
            have := blk_lt hr hx hg
            simp only [blk, Option.some.injEq] at he; omega)
        (fun g hg hbg => by simp only [blk, Option.some.injEq] at hg; have := hb' g hbg; omega)
        (fun i d hd _ _ j hj => upd_other _ _ _ _ (fun e => (hfr i d hd).2 j hj (by omega))) _ (upd_same _ _ _) (fun i hi _ => upd_other _ _ _ _ hi) (fun i _ hf => by cases hf))
  sup := fun U hU _ => ⟨fun s hs => .inr (by have : s ∈ [8 * nid] := hs; simp at this; omega), fun i c hc s hs => by
    simp only [List.mem_singleton, Prod.mk.injEq, Option.some.injEq] at hc
    obtain ⟨_, rfl⟩ := hc
    cases hs⟩
  wr := fun x hx => by simp at hx; subst hx; exact .inr (by simp)
/-- a buffer of bytes as a string -/
theorem Valid.stringB {x : Operand} {t st el t0 : TypeId} {id n : Nat} {l : List UInt8} (ho : o.op = .convert t st x) (ht : P.underlying t = some (.slice el)) (he : P.underlying el = some (.int .u8)) (hst : P.underlying st = some .string) (hx : ρ x = Buf id n) (hh : h id = some (.buf t0 (l.map B))) :
    Valid P nid o ρ h ⟨Is (.string ⟨l.toArray⟩), [id], []⟩ :=
  .bufread _ rfl hh fun σ κ a hops hat => by
    have h1 := hops x (by rw [ho]; simp [Op.operands])
    rw [hx] at h1
    obtain ⟨hu, _⟩ := h1
    obtain ⟨b, tl, fr, c, hσ, hheap, _⟩ := hat
    have hrun := run_convert_bytes_back κ.w t st el ⟨b, 0, none⟩ c l ht he hst (fun j hj => by
      have e : (⟨b, 0, none⟩ : Addr).add j = ⟨b, j, none⟩ := by unfold Addr.add; split <;> simp_all
      rw [e, cell_of_row _ _ _ _ _ _ hheap, List.getElem?_toArray, List.getElem?_append_left (by simpa using hj)]
      simp [B, hj])
    refine ⟨.string ⟨l.toArray⟩, ?_, rfl⟩
    unfold execOp
    rw [ho]
    rw [List.length_map] at hσ
    simp only [hu, hσ, Sem.run_bind, hrun, Result.andThen_ok, Sem.run_pure]
/-- the library's own search for a byte -/
theorem Valid.findB {f : FuncId} {fn : Func} {x y : Operand} {ts : Array TypeId} {t0 : TypeId} {id n : Nat} {l : List UInt8} {c : UInt8} (ho : o.op = .call { callee := .value (.func f), args := #[x, y], argTypes := ts }) (hf : P.funcs[f]? = some fn) (hname : (fn.name == "runtime.NumGoroutine") = false)
    (hb : fn.body.isNone = true) (hn : Extern.findNext fn = none) (he : Extern.find fn = some Extern.BytealgIndexByte.indexByte) (hx : ρ x = Buf id n) (hy : ρ y = Is (.int .u8 (c.toNat : Int))) (hh : h id = some (.buf t0 (l.map B))) :
    Valid P nid o ρ h ⟨Is (.int .i64 (Lib.indexByte l c)), [id], []⟩ :=
  .bufread _ rfl hh fun σ κ a hops hat => by
    have h1 := hops x (by rw [ho]; simp [Op.operands, Call.operands])
    have h2 := hops y (by rw [ho]; simp [Op.operands, Call.operands])
    rw [hx] at h1; rw [hy] at h2
    obtain ⟨hu, _⟩ := h1
    have h2 : a.eval y = .int .u8 (c.toNat : Int) := h2
    obtain ⟨b, tl, fr, cp, hσ, hheap, _⟩ := hat
    have hs := Lib.run_indexByteSlice (P := P) (w := κ.w) b 0 l.length cp (l.map fun u => (u.toNat : Int)) (by simp) (fun i hi => by
      rw [Nat.zero_add, cell_of_row _ _ _ _ _ _ hheap, List.getElem?_toArray, List.getElem?_append_left (by simpa using hi)]
      simp [B, hi, List.getD_eq_getElem?_getD]) (c.toNat : Int)
    have e1 : Lib.bytesOf (l.map fun u => (u.toNat : Int)) = l := by
      rw [Lib.bytesOf, List.map_map]
      exact (List.map_congr_left (fun u _ => by simp)).trans (List.map_id l)
    have e2 : ((c.toNat : Int)).toNat.toUInt8 = c := by simp
    rw [e1, e2] at hs
    have hcall := run_callFunc_indexByte (P := P) hf hname hb hn he #[.slice (some ⟨b, 0, none⟩) l.length cp, .int .u8 (c.toNat : Int)] κ.w
    rw [hs] at hcall
    refine ⟨.int .i64 (Lib.indexByte l c), ?_, rfl⟩
    unfold execOp
    rw [ho]
    rw [List.length_map] at hσ
    have hev : a.eval (.func f) = .func (.func f) #[] #[] := rfl
    rw [hσ] at hu
    simp [resolve, Deferred.ofValue, invoke, hu, h2, hev, hcall, Result.andThen]
theorem Valid.buildB {x : Operand} {t : TypeId} {id n : Nat} (zs : List Value) (ho : o.op = .build t #[(0, x)]) (hx : ρ x = Buf id n)
    (hrun : ∀ (a : Option Addr) (n c : Nat) (w : World), (Instr.build t #[(0, .slice a n c)]).run P w = .ok (.agg (Value.slice a n c :: zs).toArray) w) : Valid P nid o ρ h ⟨Agg (Buf id n :: zs.map Is), [], []⟩ :=
  .quiet _ (fun s hs => ⟨x, by rw [ho]; simp [Op.operands], by
    rw [hx]
    have : s ∈ (Buf id n :: zs.map Is).flatMap AV.sup := hs
    rw [List.flatMap_cons, is_nosup, List.append_nil] at this
    exact this⟩) fun σ κ a hops => by
    have h1 := hops x (by rw [ho]; simp [Op.operands])
    rw [hx] at h1
    have h2 := h1
    obtain ⟨_, b, c, hu, _⟩ := h2
    refine ⟨_, ?_, Value.slice (some ⟨b, 0, none⟩) n c :: zs, rfl, by rw [← hu]; exact h1, all2_is zs⟩
    have hr := hrun (some ⟨b, 0, none⟩) n c κ.w
    rw [← hu] at hr ⊢
    unfold execOp
    rw [ho]
    have : (#[((0 : Nat), x)].map fun q => (q.1, a.eval q.2)) = #[(0, a.eval x)] := by simp
    simp only [this, hr, Sem.run_bind, Result.andThen_ok, Sem.run_pure]
theorem Valid.weak {A A' : AV} {rd : List Nat} {wr : List (Nat × Option Chunk)} (hv : Valid P nid o ρ h ⟨A, rd, wr⟩) (hA : ∀ σ κ v, A.p σ κ v → A'.p σ κ v) (hs : A'.sup = []) : Valid P nid o ρ h ⟨A', rd, wr⟩ where
  run := fun base σ κ h' a next Q h1 h2 h3 h4 h5 h6 hk => hv.run base σ κ h' a next Q h1 h2 h3 h4 h5 h6 fun v σ' κ' k1 k2 k3 k4 k5 => hk v σ' κ' k1 k2 k3 (hA _ _ _ k4) k5
  sup := fun U h1 h2 => ⟨nosup hs, (hv.sup U h1 h2).2⟩
  wr := hv.wr
theorem Valid.loadN {t t0 : TypeId} {x : Operand} {id off id' n : Nat} {cs : List AV} (ho : o.op = .load t x) (hag : ∀ w, (isAgg t).run P w = .ok false w) (hx : ρ x = Ptr id off) (hh : h id = some (.var t0 cs)) (hA : cs[off]? = some (Buf id' n)) : Valid P nid o ρ h ⟨SlN n, [id], []⟩ :=
  (Valid.load (P := P) (nid := nid) (Buf id' n) ho hag hx hh hA).weak (fun _ _ _ ⟨_, _b, c, h, _⟩ => ⟨_, c, h⟩) rfl
theorem Valid.lenN {x : Operand} {t : TypeId} {n : Nat} {el : TypeId} (ho : o.op = .call { callee := .builtin .len, args := #[x], argTypes := #[t] }) (ht : P.underlying t = some (.slice el)) (hx : ρ x = SlN n) :
    Valid P nid o ρ h ⟨Is (.int .i64 (n : Int)), [], []⟩ :=
  .quiet _ (nosup rfl) fun σ κ a hops => by
    have h1 := hops x (by rw [ho]; simp [Op.operands, Call.operands])
    rw [hx] at h1
    obtain ⟨b, c, hu⟩ := h1
    refine ⟨.int .i64 (n : Int), ?_, rfl⟩
    unfold execOp
    rw [ho]
    simp [resolve, invoke, builtin, Builtin.len_, run_underlying ht, hu, goInt, Result.andThen]
theorem Valid.litS2 {t el : TypeId} {x y : Operand} {n0 n1 : Nat} {xs0 xs1 : List Value} (X : Nat → List Int) (ho : o.op = .buildSlice t 2 #[(0, x), (1, y)])
    (hx : Reads (ρ x) 1 n0 xs0) (hy : Reads (ρ y) 1 n1 xs1) (e0 : n0 = (X 0).length) (e0' : xs0 = (X 0).map I64) (e1 : n1 = (X 1).length) (e1' : xs1 = (X 1).map I64)
    (hrun : ∀ (a b : Option Addr) (n1 n2 c1 c2 : Nat) (w : World), (Instr.buildSlice t 2 #[(0, .slice a n1 c1), (1, .slice b n2 c2)]).run P w = .ok (.slice (some ⟨w.heap.size, 0, none⟩) 2 2) (w.alloc (.cells #[.slice a n1 c1, .slice b n2 c2] el))) :
    Valid P nid o ρ h ⟨SlS 2 X, [], []⟩ :=
  .fresh _ rfl fun σ κ a hops => by
    subst e0 e0' e1 e1'
    have h0 := hx σ κ _ (hops x (by rw [ho]; simp [Op.operands]))
    have h1 := hy σ κ _ (hops y (by rw [ho]; simp [Op.operands]))
    obtain ⟨b0, c0, u0⟩ := h0.form
    obtain ⟨b1, c1, u1⟩ := h1.form
    have hr := hrun b0 b1 (X 0).length (X 1).length c0 c1 κ.w
    rw [← u0, ← u1] at hr
    let cs : List Value := [a.eval x, a.eval y]
    refine ⟨_, κ.new (.cells cs.toArray el) none, ?_, κ.new_le _ _, fun b hb => κ.new_old _ _ b hb, cs, ⟨rfl, .inr ⟨⟨κ.w.heap.size, 0, none⟩, 2, rfl, Nat.le_refl _, by decide, rd_new κ cs el⟩⟩, fun j v hj => ?_⟩
    · unfold execOp
      rw [ho]
      have : (#[((0 : Nat), x), (1, y)].map fun q => (q.1, a.eval q.2)) = #[(0, a.eval x), (1, a.eval y)] := by simp
      simp only [this, hr, Sem.run_bind, Result.andThen_ok, Sem.run_pure]
      rfl
    · have hle := κ.new_le (.cells cs.toArray el) none
      have hlt : j < 2 := (List.getElem?_eq_some_iff.1 hj).1
      match j, hlt, hj with
      | 0, _, hj => cases hj; exact h0.mono hle
      | 1, _, hj => cases hj; exact h1.mono hle
theorem Valid.copyB1 {G : Type} {f : G → Value} {x y : Operand} {t s el t0 : TypeId} {id o1 o2 n m : Nat} {l : List G} (ho : o.op = .call { callee := .builtin .copy, args := #[x, y], argTypes := #[t, s] }) (ht : P.underlying t = some (.slice el)) (hs : (P.info? el).map (·.size) = some 1)
    (hx : ρ x = Bsub id o1 n) (hy : ρ y = Bsub id o2 m) (hh : h id = some (.buf t0 (l.map f))) (e : n = m) (h1 : o1 + n ≤ l.length) (h2 : o2 + n ≤ l.length) (hone : ∀ u, (f u).oneCell' = true) :
    Valid P nid o ρ h ⟨Is (.int .i64 (n : Int)), [id], [(id, some (.buf t0 ((l.take o1 ++ (l.drop o2).take n ++ l.drop (o1 + n)).map f)))]⟩ := by
  have hv := Valid.copyB (P := P) (nid := nid) ho ht hs hx hy hh e (by simpa using h1) (by simpa using h2) (fun v hv => by
    obtain ⟨u, _, rfl⟩ := List.mem_map.1 hv
    exact hone u)
  simpa [List.map_take, List.map_drop, List.append_assoc] using hv
end
theorem leq_tup {θ : Nat → Nat} {A B : AV} {l m : List AV} (h : A = Tup l) (h' : B = Tup m) (hl : All2le θ l m) : A.leq θ B := fun σ κ u hu => by
  subst h h'
  obtain ⟨us, e, hu⟩ := hu
  exact ⟨us, e, hl.all2 hu⟩
theorem up_tup {θ : Nat → Nat} {l m : List AV} (h : AllUp θ l m) : AV.up θ (Tup l) (Tup m) := fun σ κ u hu => by
  obtain ⟨us, e, hu⟩ := hu
  exact ⟨us, e, h.all2 hu⟩
end Ab
end Go.Proofs.Ytmilegikgbmjpaa
