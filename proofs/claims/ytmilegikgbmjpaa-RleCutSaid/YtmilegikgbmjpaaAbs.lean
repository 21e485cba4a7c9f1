/-
  ARRAYS INSIDE STRUCTS over abstract states: cells that are read, written, cut and copied.
-/
import Derived.Test.YtmilegikgbmjpaaAbr
namespace Go.Proofs.Ytmilegikgbmjpaa
open Go.RowKit
namespace Ab
/-- a part of a variable's cells, as a slice -/
def Vsub (id off n : Nat) : AV := ⟨fun σ _ u => ∃ b off' k, σ id = .pointer (some ⟨b, 0, none⟩) ∧ u = .slice (some ⟨b, off', none⟩) n k ∧ (off' = off ∨ n = 0), [id],
  fun hs ⟨b, off', k, h1, h2⟩ => ⟨b, off', k, (hs id (by simp)).trans h1, h2⟩, fun _ h => h⟩
/-- an array's cells, and others behind them -/
def AX {G : Type} (f : G → Value) (l : List G) (r : List Value) : List Value := l.map f ++ r
theorem ax_at {G : Type} {f : G → Value} {l : List G} {r : List Value} {i : Nat} (d : G) (h : i < l.length) : (AX f l r)[i]? = some (f (l.getD i d)) := by
  unfold AX
  rw [List.getElem?_append_left (by simpa using h), List.getElem?_map, List.getElem?_eq_getElem h, getD_lt l i d h]
  rfl
theorem ax_set {G : Type} {f : G → Value} {l : List G} {r : List Value} {i : Nat} {v : G} (h : i < l.length) : (AX f l r).take i ++ [f v] ++ (AX f l r).drop (i + 1) = AX f (l.set i v) r := by
  have e : (AX f l r).set i (f v) = AX f (l.set i v) r := by
    unfold AX
    rw [List.set_append_left _ _ (by simpa using h), List.map_set]
  rw [← e, List.set_eq_take_append_cons_drop, if_pos (by simp [AX]; omega)]
  simp
theorem hp_arr0 {hp : Heap} {θ : Nat → Nat} {k : Nat} {t : TypeId} {l l' : List Value} (h : hp (θ k) = some (.var t (l.map Is))) (e : l = l') : ∃ c, hp (θ k) = some c ∧ Chunk.leq θ c (.arr t l') := ⟨_, h, .arr0 e⟩
theorem hp_ax {hp : Heap} {θ : Nat → Nat} {k : Nat} {t : TypeId} {G : Type} {f : G → Value} {l l' : List G} {r r' : List Value} (h : hp (θ k) = some (.arr t (AX f l r))) (e : l = l') (e2 : r = r') : ∃ c, hp (θ k) = some c ∧ Chunk.leq θ c (.arr t (AX f l' r')) := by
  subst e e2; exact ⟨_, h, .arr rfl⟩
theorem cup_arr {θ : Nat → Nat} {t : TypeId} {l : List Value} : ChunkUp θ (.arr t l) (.arr t l) := fun _ _ _ h => h
section
variable {P : Program} {nid : Nat} {o : Oper} {ρ : Operand → AV} {h : Heap}
theorem Valid.build1 {t : TypeId} {x : Operand} {i : Nat} {v : Value} (pre post : List Value) (ho : o.op = .build t #[(i, x)]) (hx : ρ x = Is v) (hrun : ∀ w : World, (Instr.build t #[(i, v)]).run P w = .ok (.agg (pre ++ v :: post).toArray) w) :
    Valid P nid o ρ h ⟨Agg ((pre ++ v :: post).map Is), [], []⟩ := .build [(i, v)] _ ho (by simp [hx]) hrun
theorem Valid.arrread {id : Nat} {t : TypeId} {l : List Value} (A : AV) (hA : A.sup = []) (hh : h id = some (.arr t l))
    (hrun : ∀ σ (κ : Kw) (a : Act), (∀ x ∈ o.op.operands, (ρ x).p σ κ (a.eval x)) → ∀ b, σ id = .pointer (some ⟨b, 0, none⟩) → κ.w.heap[b]? = some (.cells l.toArray t (0, 0)) → ∃ v, (execOp a.eval o).run P κ.w = .ok (.value v) κ.w ∧ A.p σ κ v) : Valid P nid o ρ h ⟨A, [id], []⟩ where
  run := fun base σ κ h' a next Q hops hrd hr hb _ _ hk => by
    obtain ⟨b, hσ, hheap, _⟩ := hr.at_ id (.arr t l) (by rw [hrd id (by simp), hh])
    obtain ⟨v, hv, hAv⟩ := hrun σ κ a hops b hσ hheap
    unfold Oper.wp
    rw [hv]
    exact hk v σ κ (Kw.le_refl κ) (fun _ _ => ⟨rfl, rfl⟩) (fun _ _ => rfl) hAv hr
  sup := fun U _ _ => ⟨nosup hA, fun i c hc => by cases hc⟩
  wr := fun x hx => by cases hx
theorem Valid.arrset {id : Nat} {t : TypeId} {vals vals' : List Value} (v0 : Value) (hh : h id = some (.arr t vals))
    (hrun : ∀ σ (κ : Kw) (a : Act), (∀ x ∈ o.op.operands, (ρ x).p σ κ (a.eval x)) → ∀ b, σ id = .pointer (some ⟨b, 0, none⟩) → κ.w.heap[b]? = some (.cells vals.toArray t (0, 0)) →
      ((execOp a.eval o).run P κ.w = .ok .skip (κ.w.setRow b vals'.toArray) ∧ v0 = undef) ∨ (execOp a.eval o).run P κ.w = .ok (.value v0) (κ.w.setRow b vals'.toArray)) :
    Valid P nid o ρ h ⟨Is v0, [id], [(id, some (.arr t vals'))]⟩ where
  run := fun base σ κ h' a next Q hops hrd hr hb _ _ hk => by
    have hid : h' id = some (.arr t vals) := by rw [hrd id (by simp), hh]
    obtain ⟨b, hσ, hheap, hown⟩ := hr.at_ id (.arr t vals) hid
    have hblk : blk (σ id) = some b := by rw [hσ]; rfl
    have hbb : ¬ base b := hr.base id _ b hid hblk
    let κ' : Kw := ⟨κ.w.setRow b vals'.toArray, κ.own, fun g k hg => by rw [size_setRow]; exact κ.lt g k hg⟩
    have hle : κ.le κ' := ⟨rfl, rfl, rfl, by show κ.w.heap.size ≤ _; rw [size_setRow]; exact Nat.le_refl _,
      fun g _ hg => ⟨hg, setRow_other _ _ _ _ (fun e => by subst e; rw [hown] at hg; cases hg)⟩,
      fun g k hg => ⟨fun k' hk' => by have : κ.own g = some k' := hk'; rw [hg] at this; cases this; exact Nat.le_refl _, fun j u hj hu => by
        have hgb : g ≠ b := fun e => by subst e; rw [hown] at hg; cases hg; omega
        simp only [World.cell?] at hu ⊢
        rw [show κ'.w.heap[g]? = κ.w.heap[g]? from setRow_other _ _ _ _ hgb]
        exact hu⟩⟩
    have hupd : upd σ id (σ id) = σ := by
      funext i
      by_cases e : i = id
      · subst e; rw [upd_same]
      · rw [upd_other _ _ _ _ e]
    have hres := hr.set hle id (σ id) (.arr t vals') (fun _ => false)
        (fun i d hd hne _ g hg => ⟨setRow_other _ _ _ _ (fun e => by subst e; exact hr.far i id g hne (by rw [hd]; simp) (by rw [hid]; simp) hg hblk), rfl⟩)
        (by
          rw [hupd]
          exact ⟨b, hσ, setRow_heap _ _ _ _ _ _ hheap, hown⟩)
        (fun i g hi hne _ hg => fun e => hr.far i id g hne hi (by rw [hid]; simp) hg e)
        (fun g hg => hr.base id _ g hid hg)
        (fun i d hd hne _ j hj => by rw [hupd]) (updl h' [(id, some (.arr t vals'))]) (upd_same _ _ _) (fun i hi _ => upd_other _ _ _ _ hi) (fun i _ hf => by cases hf)
    rw [hupd] at hres
    unfold Oper.wp
    rcases hrun σ κ a hops b hσ hheap with ⟨h3, rfl⟩ | h3
    · rw [h3]
      exact hk undef σ κ' hle (fun g hg => ⟨rfl, setRow_other _ _ _ _ (fun e => hbb (e ▸ hg))⟩) (fun _ _ => rfl) rfl hres
    · rw [h3]
      exact hk v0 σ κ' hle (fun g hg => ⟨rfl, setRow_other _ _ _ _ (fun e => hbb (e ▸ hg))⟩) (fun _ _ => rfl) rfl hres
  sup := fun U hV hU => ⟨nosup rfl, fun i c hc s hs => by
    simp only [List.mem_singleton, Prod.mk.injEq, Option.some.injEq] at hc
    obtain ⟨_, rfl⟩ := hc
    cases hs⟩
  wr := fun x hx => by simp at hx; subst hx; exact .inl ⟨by simp, by rw [hh]; simp⟩
theorem Valid.loadC {l : List Value} {t t0 : TypeId} {x : Operand} {id off : Nat} (v : Value) (ho : o.op = .load t x) (hag : ∀ w, (isAgg t).run P w = .ok false w) (hx : ρ x = Ptr id off) (hh : h id = some (.arr t0 l)) (hv : l[off]? = some v) : Valid P nid o ρ h ⟨Is v, [id], []⟩ :=
  .arrread _ rfl hh fun σ κ a hops b hσ hheap => by
    have h1 := hops x (by rw [ho]; simp [Op.operands])
    rw [hx] at h1
    obtain ⟨b2, hσ2, hu⟩ := h1
    rw [hσ] at hσ2; cases hσ2
    refine ⟨v, ?_, rfl⟩
    have hc : κ.w.cell? ⟨b, off, none⟩ = some v := by rw [cell_of_row _ _ _ _ _ _ hheap]; simpa using hv
    unfold execOp
    rw [ho]
    simp only [hu, Instr.loadAt, Instr.sureAddr, Sem.run_bind, Sem.run_pure, Result.andThen_ok, loadVar, hag]
    simp [Go.load, Sem.run, hc, Result.andThen]
theorem Valid.loadX {G : Type} {f : G → Value} {l : List G} {r : List Value} {t t0 : TypeId} {x : Operand} {id off : Nat} (d : G) (ho : o.op = .load t x) (hag : ∀ w, (isAgg t).run P w = .ok false w) (hx : ρ x = Ptr id off) (hh : h id = some (.arr t0 (AX f l r))) (hi : off < l.length) : Valid P nid o ρ h ⟨Is (f (l.getD off d)), [id], []⟩ :=
  .loadC _ ho hag hx hh (ax_at d hi)
/-- the first one of the cells behind the array -/
theorem Valid.loadZ {G : Type} {f : G → Value} {l : List G} {r : List Value} {t t0 : TypeId} {x : Operand} {id off : Nat} {v : Value} (ho : o.op = .load t x) (hag : ∀ w, (isAgg t).run P w = .ok false w) (hx : ρ x = Ptr id off) (hh : h id = some (.arr t0 (AX f l (v :: r)))) (hl : l.length = off) : Valid P nid o ρ h ⟨Is v, [id], []⟩ :=
  .loadC _ ho hag hx hh (by
    unfold AX
    rw [List.getElem?_append_right (by simp [hl]), List.length_map, hl, Nat.sub_self]; rfl)
theorem Valid.storeX {G : Type} {f : G → Value} {l : List G} {r : List Value} {t t0 : TypeId} {x y : Operand} {id off : Nat} (v : G) (ho : o.op = .store t x y) (hsz : ∀ w, (sizeOf t).run P w = .ok 1 w) (hx : ρ x = Ptr id off) (hh : h id = some (.arr t0 (AX f l r))) (hi : off < l.length) (hy : ρ y = Is (f v)) (h1 : One (ρ y)) :
    Valid P nid o ρ h ⟨Is undef, [id], [(id, some (.arr t0 (AX f (l.set off v) r)))]⟩ :=
  .arrset undef hh fun σ κ a hops b hσ hheap => .inl ⟨by
    have h2 := hops x (by rw [ho]; simp [Op.operands])
    rw [hx] at h2
    obtain ⟨b2, hσ2, hu⟩ := h2
    rw [hσ] at hσ2; cases hσ2
    have h3 := hops y (by rw [ho]; simp [Op.operands])
    obtain ⟨h4, h5⟩ := h1 _ _ _ h3
    rw [hy] at h3
    have h3 : a.eval y = f v := h3
    rw [h3] at h4 h5
    have hst := run_storeCells_at P b off t0 [f v] 0 (AX f l r).toArray κ.w hheap (by simp [AX]; omega) (fun u hu => by simp at hu; subst hu; exact h4)
    simp only [Nat.add_zero] at hst
    rw [show ([f v] : List Value).length = 1 from rfl, ax_set hi] at hst
    unfold execOp
    rw [ho]
    simp only [hu, h3, Instr.storeAt, Instr.sureAddr, Sem.run_bind, Sem.run_pure, Result.andThen_ok, storeVar, hsz, h5]
    simp only [show (#[f v] : Array Value).size = 1 from rfl, ne_eq, not_true_eq_false, if_false, hst]
    rfl, rfl⟩
theorem Valid.cutV {x y z : Operand} {t el : TypeId} {id n : Nat} {k k' : IntKind} {i j : Int} (ho : o.op = .slice t x (some y) (some z) none) (ht : P.underlying t = some (.array n el)) (hsz : ∀ w, (sizeOf el).run P w = .ok 1 w) (hx : ρ x = Ptr id 0) (hy : ρ y = Is (.int k i)) (hz : ρ z = Is (.int k' j))
    (hi : 0 ≤ i ∧ i ≤ j ∧ j ≤ n) : Valid P nid o ρ h ⟨Vsub id i.toNat (j.toNat - i.toNat), [], []⟩ :=
  .quiet _ (fun s hs => ⟨x, by rw [ho]; simp [Op.operands], by rw [hx]; exact hs⟩) fun σ κ a hops => by
    have h1 := hops x (by rw [ho]; simp [Op.operands])
    have h2 := hops y (by rw [ho]; simp [Op.operands])
    have h3 := hops z (by rw [ho]; simp [Op.operands])
    rw [hx] at h1; rw [hy] at h2; rw [hz] at h3
    obtain ⟨b, hσ, hu⟩ := h1
    have h2 : a.eval y = .int k i := h2
    have h3 : a.eval z = .int k' j := h3
    have e1 : (Instr.sliceBound (.int k' j) n .sliceAlen).run P κ.w = .ok j.toNat κ.w := run_sliceBound k' j n _ (by omega) (by omega) _
    have e2 : (Instr.sliceBound (.int k i) j.toNat .sliceB).run P κ.w = .ok i.toNat κ.w := run_sliceBound k i j.toNat _ (by omega) (by omega) _
    have hrun : ∀ s : Value, s = .slice (if n - i.toNat = 0 then some ⟨b, 0, none⟩ else some ⟨b, i.toNat, none⟩) (j.toNat - i.toNat) (n - i.toNat) → (execOp a.eval o).run P κ.w = .ok (.value s) κ.w := fun s hs => by
      subst hs
      unfold execOp
      rw [ho]
      simp [hu, h2, h3, Instr.sliceAt, Instr.sureAddr, Instr.sliceBounds, run_underlying ht, e1, e2, hsz, Result.andThen, Addr.add]
      by_cases hz : n = i.toNat
      · simp [hz]
      · have : ¬ (n - i.toNat = 0) := by omega
        simp [hz, this]
        exact fun h => (by omega)
    refine ⟨_, hrun _ rfl, b, if n - i.toNat = 0 then 0 else i.toNat, n - i.toNat, hσ, ?_, ?_⟩
    · split <;> rfl
    · split
      · exact .inr (by omega)
      · exact .inl rfl
theorem Valid.cutVto {x z : Operand} {t el : TypeId} {id n : Nat} {k' : IntKind} {j : Int} (ho : o.op = .slice t x none (some z) none) (ht : P.underlying t = some (.array n el)) (hsz : ∀ w, (sizeOf el).run P w = .ok 1 w) (hx : ρ x = Ptr id 0) (hz : ρ z = Is (.int k' j))
    (hi : 0 ≤ j ∧ j ≤ n) : Valid P nid o ρ h ⟨Vsub id 0 j.toNat, [], []⟩ :=
  .quiet _ (fun s hs => ⟨x, by rw [ho]; simp [Op.operands], by rw [hx]; exact hs⟩) fun σ κ a hops => by
    have h1 := hops x (by rw [ho]; simp [Op.operands])
    have h3 := hops z (by rw [ho]; simp [Op.operands])
    rw [hx] at h1; rw [hz] at h3
    obtain ⟨b, hσ, hu⟩ := h1
    have h3 : a.eval z = .int k' j := h3
    have e1 : (Instr.sliceBound (.int k' j) n .sliceAlen).run P κ.w = .ok j.toNat κ.w := run_sliceBound k' j n _ (by omega) (by omega) _
    refine ⟨.slice (some ⟨b, 0, none⟩) j.toNat n, ?_, b, 0, n, hσ, rfl, .inl rfl⟩
    unfold execOp
    rw [ho]
    simp [hu, h3, Instr.sliceAt, Instr.sureAddr, Instr.sliceBounds, run_underlying ht, e1, hsz, Result.andThen, Addr.add]
/-- copy, of one part of an array to another one -/
theorem Valid.copyX {G : Type} {f : G → Value} {r : List Value} {x y : Operand} {t s el t0 : TypeId} {id o1 o2 n m : Nat} {l : List G} (ho : o.op = .call { callee := .builtin .copy, args := #[x, y], argTypes := #[t, s] }) (ht : P.underlying t = some (.slice el)) (hs : (P.info? el).map (·.size) = some 1)
    (hx : ρ x = Vsub id o1 n) (hy : ρ y = Vsub id o2 m) (hh : h id = some (.arr t0 (AX f l r))) (e : n = m) (h1 : o1 + n ≤ l.length) (h2 : o2 + n ≤ l.length) (hone : ∀ u, (f u).oneCell' = true) :
    Valid P nid o ρ h ⟨Is (.int .i64 (n : Int)), [id], [(id, some (.arr t0 (AX f (l.take o1 ++ (l.drop o2).take n ++ l.drop (o1 + n)) r)))]⟩ :=
  .arrset _ hh fun σ κ a hops b hσ hheap => .inr (by
    subst e
    unfold AX at hheap
    have k1 := hops x (by rw [ho]; simp [Op.operands, Call.operands])
    have k2 := hops y (by rw [ho]; simp [Op.operands, Call.operands])
    rw [hx] at k1; rw [hy] at k2
    obtain ⟨b1, off1, cap1, hσ1, hu1, ho1⟩ := k1
    obtain ⟨b2, off2, cap2, hσ2, hu2, ho2⟩ := k2
    rw [hσ] at hσ1 hσ2
    simp only [Value.pointer.injEq, Option.some.injEq, Addr.mk.injEq] at hσ1 hσ2
    obtain ⟨rfl, _⟩ := hσ1
    obtain ⟨rfl, _⟩ := hσ2
    unfold execOp
    rw [ho]
    have key : (Builtin.copy_ #[t, s] o.type #[a.eval x, a.eval y]).run P κ.w = .ok (goInt n) (κ.w.setRow b ((l.take o1 ++ (l.drop o2).take n ++ l.drop (o1 + n)).map f ++ r).toArray) := by
      rw [hu1, hu2]
      by_cases hz : n = 0
      · subst hz
        rw [run_copy_none κ.w t s o.type el _ _ 0 cap1 0 cap2 ht hs (by simp)]
        simp only [List.take_zero, List.append_nil, Nat.add_zero, List.take_append_drop]
        rw [setRow_self _ _ _ _ _ hheap]; rfl
      · obtain rfl : off1 = o1 := by omega
        obtain rfl : off2 = o2 := by omega
        have hl : (((l.drop off2).take n).map f).length = n := by simp; omega
        have hr := run_copy_fr κ.w t s o.type el b off1 n cap1 ⟨b, off2, none⟩ n cap2 (l.map f ++ r).toArray t0 (0, 0) (((l.drop off2).take n).map f) ht hs hheap (fun j _ _ hf => by omega) (by rw [hl]; simp)
          (fun j v hj => by
            have hjn : j < n := by have := (List.getElem?_eq_some_iff.1 hj).1; omega
            have e : (⟨b, off2, none⟩ : Addr).add j = ⟨b, off2 + j, none⟩ := by unfold Addr.add; split <;> simp_all
            rw [e, cell_of_row _ _ _ _ _ _ hheap, List.getElem?_toArray, List.getElem?_append_left (by simp; omega), ← hj, List.getElem?_map, List.getElem?_map, List.getElem?_take_of_lt hjn, List.getElem?_drop])
          (by simp; omega) (fun v hv => by
            obtain ⟨u, _, rfl⟩ := List.mem_map.1 hv
            exact hone u)
        rw [hr, hl]
        have e := cut_app (l.map f) r (((l.drop off2).take n).map f) off1 (by rw [hl]; simp; omega)
        rw [hl] at e
        rw [e]
        simp [List.map_append, List.map_take, List.map_drop]
    simp [resolve, invoke, builtin, Result.andThen] at *
    simp [key, goInt, AX])
end
theorem Valid.fresh0 {P : Program} {nid : Nat} {o : Oper} {ρ : Operand → AV} {h : Heap} {el : TypeId} {e cap : Nat} {zs : List Value}
    (hrun : ∀ σ (κ : Kw) (a : Act), (∀ x ∈ o.op.operands, (ρ x).p σ κ (a.eval x)) → (execOp a.eval o).run P κ.w = .ok (.value (.slice (some ⟨κ.w.heap.size, 0, none⟩) 0 cap)) (κ.w.alloc (.cells zs.toArray el)))
    (hl : zs.length = cap * e) (hn : cap ≤ maxLen) : Valid P nid o ρ h ⟨Own (8 * nid) e 0 [], [], [(8 * nid, some (.row el e 0 []))]⟩ where
  run := fun base σ κ h' a next Q hops hrd hr hbase _ hfr hk => by
    have hid8 : 8 * nid / 8 = nid := by omega
    have hrun' := hrun σ κ a hops
    let κ' := κ.new (.cells zs.toArray el) (some (0 * e))
    have hat := κ.new_at (.cells zs.toArray el) (some (0 * e))
    have how : κ'.w.ownsRow 0 el e (.slice (some ⟨κ.w.heap.size, 0, none⟩) 0 cap) 0 [] :=
      ⟨by simp, .inr ⟨_, cap, zs.toArray, rfl, Nat.zero_le _, hat.1, Nat.zero_le _, hn, by simp [hl], by simp⟩⟩
    have hon : ∀ g, blk (.slice (some ⟨κ.w.heap.size, 0, none⟩) 0 cap) = some g → κ'.own g = some (0 * e) := fun g hg => by
      cases hg; exact hat.2
    have hv'' : ∀ g, blk (.slice (some ⟨κ.w.heap.size, 0, none⟩) 0 cap) = some g → g = κ.w.heap.size := fun g hg => by cases hg; rfl
    have hold : ∀ b, b < κ.w.heap.size → κ'.own b = κ.own b ∧ κ'.w.heap[b]? = κ.w.heap[b]? := fun b hb => κ.new_old _ _ b hb
    have hle : κ.le κ' := κ.new_le _ _
    unfold Oper.wp
    rw [hrun']
    refine hk _ (upd σ (8 * nid) (.slice (some ⟨κ.w.heap.size, 0, none⟩) 0 cap)) κ' hle (fun b hb' => hold b (hbase b hb')) (fun i hi => upd_other _ _ _ _ (fun e => hi (by omega))) ⟨(upd_same _ _ _).symm, own_sl how hon⟩ ?_
    refine hr.set hle (8 * nid) _ (.row el e 0 []) (fun _ => false) (fun i d hd hi _ g hg => ?_) ⟨how, hon⟩ (fun i g hi hi8 _ hg he => ?_) (fun g hg => ?_) (fun i d hd _ _ j hj => upd_other _ _ _ _ (fun e => (hfr i d hd).2 j hj (by omega))) _ (upd_same _ _ _) (fun i hi _ => upd_other _ _ _ _ hi) (fun i _ hf => by cases hf)
    · have := hold g (blk_lt hr hd hg)
      exact ⟨this.2, this.1⟩
    · cases hd : h' i with
      | none => exact hi hd
      | some d =>
        have h2 := hv'' g he
        have := blk_lt hr hd hg; omega
    · have h2 := hv'' g hg; intro hbg; have := hbase g hbg; omega
  sup := fun U _ _ => ⟨fun s hs => .inr (by have : s ∈ [8 * nid] := hs; simp at this; omega), fun i c hc s hs => by
    simp only [List.mem_singleton, Prod.mk.injEq, Option.some.injEq] at hc
    obtain ⟨_, rfl⟩ := hc
    cases hs⟩
  wr := fun x hx => by simp at hx; subst hx; exact .inr (by simp)
/-- 'make', of no elements, with room for some -/
theorem Valid.make0 {P : Program} {nid : Nat} {o : Oper} {ρ : Operand → AV} {h : Heap} {x y : Operand} {t el : TypeId} {kl kc : IntKind} {a : Int} {bytes sz : Nat} {z : Value} (ho : o.op = .makeSlice t x y) (ht : P.underlying t = some (.slice el)) (hi : (P.info? el).map (fun i => (i.zero, i.size, i.bytes)) = some (some z, sz, bytes)) (_hc : z.cells.size = sz)
    (hx : ρ x = Is (.int kl 0)) (hy : ρ y = Is (.int kc a)) (h0 : 0 ≤ a) (hb : (bytes : Int) * a ≤ 281474976710656) (h63 : a ≤ 1000000000000) : Valid P nid o ρ h ⟨Own (8 * nid) sz 0 [], [], [(8 * nid, some (.row el sz 0 []))]⟩ :=
  .fresh0 (cap := a.toNat) (zs := (madeCells z.cells (a.toNat * sz)).toList) (fun σ κ ac hops => by
    have e1 := hops x (by rw [ho]; simp [Op.operands])
    have e2 := hops y (by rw [ho]; simp [Op.operands])
    rw [hx] at e1; rw [hy] at e2
    have e1 : ac.eval x = .int kl 0 := e1
    have e2 : ac.eval y = .int kc a := e2
    obtain ⟨i, hi', hz, hs, hby⟩ : ∃ i, P.info? el = some i ∧ i.zero = some z ∧ i.size = sz ∧ i.bytes = bytes := by
      cases h : P.info? el with
      | none => rw [h] at hi; cases hi
      | some i =>
        rw [h] at hi
        simp only [Option.map_some, Option.some.injEq, Prod.mk.injEq] at hi
        exact ⟨i, rfl, hi.1, hi.2.1, hi.2.2⟩
    have hr := run_make (P := P) κ.w t el i _ ht hi' hz kl kc 0 a (Int.le_refl _) h0 (by rw [hby]; exact hb) (by omega)
    rw [hs] at hr
    unfold execOp
    rw [ho]
    simp only [e1, e2, hr, Sem.run_bind, Result.andThen_ok, Sem.run_pure]
    rfl) (by simp [madeCells]) (by simp only [maxLen]; omega)
end Ab
end Go.Proofs.Ytmilegikgbmjpaa
