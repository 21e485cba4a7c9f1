/-
  SMALL MATHEMATICS for all walks over abstract states.
-/
import Derived.Test.YtmilegikgbmjpaaAb8
namespace Go.Proofs.Ytmilegikgbmjpaa
open Go.RowKit
namespace Ab
/-- which of n things a raw number speaks of -/
def pickV (c n : Int) : Int := (if c < 0 then 0 - (c + 1) else c) % n
theorem pickV_range (c n : Int) (hn : 0 < n) : 0 ≤ pickV c n ∧ pickV c n < n := ⟨Int.emod_nonneg _ (by omega), Int.emod_lt_of_pos _ hn⟩
def In64 (l : List Int) : Prop := ∀ x ∈ l, -9223372036854775808 ≤ x ∧ x ≤ 9223372036854775807
theorem In64.at_ {l : List Int} (h : In64 l) (i : Nat) : -9223372036854775808 ≤ l.getD i 0 ∧ l.getD i 0 ≤ 9223372036854775807 := by
  rw [List.getD_eq_getElem?_getD]
  cases hi : l[i]? with
  | none => simp
  | some x => exact h x (List.mem_of_getElem? hi)
theorem getD_lt {G : Type} (l : List G) (i : Nat) (d : G) (h : i < l.length) : l.getD i d = l[i] := by
  rw [List.getD_eq_getElem?_getD, List.getElem?_eq_getElem h]; rfl
theorem take_snoc {G : Type} (l : List G) (k : Nat) (d : G) (h : k < l.length) : l.take (k + 1) = l.take k ++ [l.getD k d] := by
  rw [List.take_succ_eq_append_getElem h, getD_lt l k d h]
theorem take_all {G : Type} (l : List G) (k : Nat) (h : l.length ≤ k) : l.take k = l := List.take_of_length_le h
theorem any_stop {G : Type} (p : G → Bool) (l : List G) (k : Nat) (d : G) (h : k < l.length) (hp : p (l.getD k d) = true) : l.any p = true :=
  List.any_eq_true.2 ⟨l.getD k d, by rw [getD_lt l k d h]; exact List.getElem_mem h, hp⟩
theorem any_step {G : Type} (p : G → Bool) (l : List G) (k : Nat) (d : G) (h : k < l.length) (h0 : (l.take k).any p = false) (hp : p (l.getD k d) = false) : (l.take (k + 1)).any p = false := by
  rw [take_snoc l k d h, List.any_append, h0]; simp only [List.any_cons, List.any_nil, hp]; rfl
theorem any_end {G : Type} (p : G → Bool) (l : List G) (k : Nat) (h : l.length ≤ k) (h0 : (l.take k).any p = false) : l.any p = false := by rwa [take_all l k h] at h0
theorem drop_cons {G : Type} (l : List G) (k : Nat) (d : G) (h : k < l.length) : l.drop k = l.getD k d :: l.drop (k + 1) := by
  rw [getD_lt l k d h]; exact List.drop_eq_getElem_cons h
abbrev I64 (x : Int) : Value := .int .i64 x
/-- moving a value of known form, and an operation that writes no memory: what is kept of them is small -/
theorem Valid.movek {P : Program} {nid : Nat} {o : Oper} {ρ : Operand → AV} {h : Heap} {x : Operand} {A : AV} (ho : o.op = .move x) (hA : ρ x = A) : Valid P nid o ρ h ⟨A, [], []⟩ := hA ▸ Valid.move ho
theorem Valid.moveS {P : Program} {nid : Nat} {o : Oper} {ρ : Operand → AV} {h : Heap} {x : Operand} {e n : Nat} {xs : List Value} (ho : o.op = .move x) (hA : Reads (ρ x) e n xs) : Valid P nid o ρ h ⟨Sl e n xs, [], []⟩ :=
  .quiet _ (nosup rfl) fun σ κ a hops => ⟨a.eval x, by unfold execOp; rw [ho]; rfl, hA σ κ _ (hops x (by rw [ho]; simp [Op.operands]))⟩
theorem Valid.assignk {P : Program} {nid : Nat} {o : Oper} {ρ : Operand → AV} {h : Heap} {x : Operand} {A : AV} (ho : o.op = .assign x) (hA : ρ x = A) : Valid P nid o ρ h ⟨A, [], []⟩ := hA ▸ Valid.assign ho
theorem Runs_p {P : Program} {N c : Nat} {ops : Array Oper} {k : Nat} {env : Env} {heap : Heap} {K : List Res → Env → Heap → Prop} {o : Oper} {os : List Oper} {A : AV} {rd : List Nat} {d : Nat} (hg : o.guard = none) (hv : Valid P (c + k) o (ρof env) heap ⟨A, rd, []⟩) (hdst : o.dst = some d) (hd : decide (d < N) = true)
    (h : Runs P N c ops (k + 1) os (upd env d A) heap (fun rs => K (⟨A, rd, []⟩ :: rs))) (hz : calmB o ⟨A, rd, []⟩ = true := by rfl) : Runs P N c ops k (o :: os) env heap K :=
  ⟨⟨A, rd, []⟩, by unfold GValid; rw [hg]; exact hv.up hz, by rw [hdst]; exact hd, by rw [hdst]; exact h⟩
theorem Runs_yesp {P : Program} {N c : Nat} {ops : Array Oper} {k : Nat} {env : Env} {heap : Heap} {K : List Res → Env → Heap → Prop} {o : Oper} {os : List Oper} {A : AV} {rd : List Nat} {j d e : Nat} {want : Bool} {g : Prop} (hg : o.guard = some (j, want)) (hj : (ops[j]?).bind (·.dst) = some d) (hβ : Grd (env d) want g) (hgg : g)
    (hv : Valid P (c + k) o (ρof env) heap ⟨A, rd, []⟩) (hdst : o.dst = some e) (hd : decide (e < N) = true)
    (h : Runs P N c ops (k + 1) os (upd env e A) heap (fun rs => K (⟨A, rd, []⟩ :: rs))) (hz : calmB o ⟨A, rd, []⟩ = true := by rfl) : Runs P N c ops k (o :: os) env heap K :=
  Runs_yes hg hj hβ hgg hv (by rw [hdst]; exact hd) (by rw [hdst]; exact h) hz
theorem Runs_w {P : Program} {N c : Nat} {ops : Array Oper} {k : Nat} {env : Env} {heap : Heap} {K : List Res → Env → Heap → Prop} {o : Oper} {os : List Oper} {A : AV} {rd : List Nat} {wr : List (Nat × Option Chunk)} {d : Nat} (hg : o.guard = none) (hv : Valid P (c + k) o (ρof env) heap ⟨A, rd, wr⟩) (hdst : o.dst = some d) (hd : decide (d < N) = true)
    (h : Runs P N c ops (k + 1) os (upd env d A) (updl heap wr) (fun rs => K (⟨A, rd, wr⟩ :: rs))) (hz : calmB o ⟨A, rd, wr⟩ = true := by rfl) : Runs P N c ops k (o :: os) env heap K :=
  ⟨⟨A, rd, wr⟩, by unfold GValid; rw [hg]; exact hv.up hz, by rw [hdst]; exact hd, by rw [hdst]; exact h⟩
theorem Runs_yesw {P : Program} {N c : Nat} {ops : Array Oper} {k : Nat} {env : Env} {heap : Heap} {K : List Res → Env → Heap → Prop} {o : Oper} {os : List Oper} {A : AV} {rd : List Nat} {wr : List (Nat × Option Chunk)} {j d e : Nat} {want : Bool} {g : Prop} (hg : o.guard = some (j, want)) (hj : (ops[j]?).bind (·.dst) = some d) (hβ : Grd (env d) want g) (hgg : g)
    (hv : Valid P (c + k) o (ρof env) heap ⟨A, rd, wr⟩) (hdst : o.dst = some e) (hd : decide (e < N) = true)
    (h : Runs P N c ops (k + 1) os (upd env e A) (updl heap wr) (fun rs => K (⟨A, rd, wr⟩ :: rs))) (hz : calmB o ⟨A, rd, wr⟩ = true := by rfl) : Runs P N c ops k (o :: os) env heap K :=
  Runs_yes hg hj hβ hgg hv (by rw [hdst]; exact hd) (by rw [hdst]; exact h) hz
theorem W_regionE {P : Program} {N : Nat} {Q : Exit → St → Prop} {id : Nat} {ops : List Oper} {env : Env} {heap : Heap} {c c' : Nat} (hg : grdB ops = true) (hc : Nat.beq (c + ops.length) c' = true)
    (h : Runs P N c ops.toArray 0 ops env heap (fun _ env heap => Q .normal ⟨env, heap, c'⟩)) : W P N (.region id ops.toArray false) ⟨env, heap, c⟩ Q := by
  have e := Nat.eq_of_beq_eq_true hc
  subst e
  exact W_region hg h
theorem W_drawE {P : Program} {N : Nat} {Q : Exit → St → Prop} {id : Nat} {ops : List Oper} {env : Env} {heap : Heap} {c c' : Nat} (hm : P.follows .mixedOrders = true) (hc : Nat.beq (c + ops.length) c' = true)
    (h : Runs P N c ops.toArray 0 ops env heap (fun rs env heap => ∃ rd wr, rs.map Res.rd = rd ∧ rs.map (fun r => r.wr.map Prod.fst) = wr ∧ indepB rd wr ops = true ∧ Q .normal ⟨env, heap, c'⟩)) : W P N (.region id ops.toArray true) ⟨env, heap, c⟩ Q := by
  have e := Nat.eq_of_beq_eq_true hc
  subst e
  exact W_draw hm h
section
variable {P : Program} {nid : Nat} {o : Oper} {ρ : Operand → AV} {h : Heap} {c x y : Operand}
theorem Valid.pickt {A : AV} (ho : o.op = .pick c x y) (hc : ρ c = Is (.bool true)) (hx : ρ x = A) : Valid P nid o ρ h ⟨A, [], []⟩ :=
  .quiet _ (fun s hs => ⟨x, by rw [ho]; simp [Op.operands], by rw [hx]; exact hs⟩) fun σ κ a hops => by
    have e1 := hops c (by rw [ho]; simp [Op.operands])
    have e2 := hops x (by rw [ho]; simp [Op.operands])
    rw [hc] at e1; rw [hx] at e2
    have e1 : a.eval c = .bool true := e1
    refine ⟨a.eval x, ?_, e2⟩
    unfold execOp
    rw [ho]
    simp [e1, asBool]
theorem Valid.pickf {A : AV} (ho : o.op = .pick c x y) (hc : ρ c = Is (.bool false)) (hy : ρ y = A) : Valid P nid o ρ h ⟨A, [], []⟩ :=
  .quiet _ (fun s hs => ⟨y, by rw [ho]; simp [Op.operands], by rw [hy]; exact hs⟩) fun σ κ a hops => by
    have e1 := hops c (by rw [ho]; simp [Op.operands])
    have e2 := hops y (by rw [ho]; simp [Op.operands])
    rw [hc] at e1; rw [hy] at e2
    have e1 : a.eval c = .bool false := e1
    refine ⟨a.eval y, ?_, e2⟩
    unfold execOp
    rw [ho]
    simp [e1, asBool]
end
/-- an operation that makes one new row, which is the call's own -/
theorem Valid.freshown {P : Program} {nid : Nat} {o : Oper} {ρ : Operand → AV} {h : Heap} {el : TypeId} {e n : Nat} {cs : List Value}
    (hrun : ∀ σ (κ : Kw) (a : Act), (∀ x ∈ o.op.operands, (ρ x).p σ κ (a.eval x)) → (execOp a.eval o).run P κ.w = .ok (.value (.slice (some ⟨κ.w.heap.size, 0, none⟩) n n)) (κ.w.alloc (.cells cs.toArray el)))
    (hl : cs.length = n * e) (hn : n ≤ maxLen) : Valid P nid o ρ h ⟨Own (8 * nid) e n cs, [], [(8 * nid, some (.row el e n cs))]⟩ where
  run := fun base σ κ h' a next Q hops hrd hr hbase _ hfr hk => by
    have hid8 : 8 * nid / 8 = nid := by omega
    have hrun' := hrun σ κ a hops
    let κ' := κ.new (.cells cs.toArray el) (some (n * e))
    have hat := κ.new_at (.cells cs.toArray el) (some (n * e))
    have how : κ'.w.ownsRow 0 el e (.slice (some ⟨κ.w.heap.size, 0, none⟩) n n) n cs :=
      ⟨hl, .inr ⟨_, n, cs.toArray, rfl, Nat.zero_le _, hat.1, Nat.le_refl _, hn, by simp [hl], by simp [← hl]⟩⟩
    have hon : ∀ g, blk (.slice (some ⟨κ.w.heap.size, 0, none⟩) n n) = some g → κ'.own g = some (n * e) := fun g hg => by
      cases hg; exact hat.2
    have hv'' : ∀ g, blk (.slice (some ⟨κ.w.heap.size, 0, none⟩) n n) = some g → g = κ.w.heap.size := fun g hg => by cases hg; rfl
    have hold : ∀ b, b < κ.w.heap.size → κ'.own b = κ.own b ∧ κ'.w.heap[b]? = κ.w.heap[b]? := fun b hb => κ.new_old _ _ b hb
    have hle : κ.le κ' := κ.new_le _ _
    unfold Oper.wp
    rw [hrun']
    refine hk _ (upd σ (8 * nid) (.slice (some ⟨κ.w.heap.size, 0, none⟩) n n)) κ' hle (fun b hb' => hold b (hbase b hb')) (fun i hi => upd_other _ _ _ _ (fun e => hi (by omega))) ⟨(upd_same _ _ _).symm, own_sl how hon⟩ ?_
    refine hr.set hle (8 * nid) _ (.row el e n cs) (fun _ => false) (fun i d hd hi _ g hg => ?_) ⟨how, hon⟩ (fun i g hi hi8 _ hg he => ?_) (fun g hg => ?_) (fun i d hd _ _ j hj => upd_other _ _ _ _ (fun e => (hfr i d hd).2 j hj (by omega))) _ (upd_same _ _ _) (fun i hi _ => upd_other _ _ _ _ hi) (fun i _ hf => by cases hf)
    · have := hold g (blk_lt hr hd hg)
      exact ⟨this.2, this.1⟩
    · cases hd : h' i with
      | none => exact hi hd
      | some d =>
        have h2 := hv'' g he
        have := blk_lt hr hd hg; omega
    · have h2 := hv'' g hg; intro hbg; have := hbase g hbg; omega
  sup := fun U _ _ => ⟨fun s hs => .inr (by have : s ∈ [8 * nid] := hs; simp at this; omega), fun i c hc s hs => by
    simp only [List.mem_singleton, Prod.mk.injEq, Option.some.injEq] at hc
    obtain ⟨_, rfl⟩ := hc
    cases hs⟩
  wr := fun x hx => by simp at hx; subst hx; exact .inr (by simp)
theorem parts_known {ρ : Operand → AV} {σ : Names} {κ : Kw} {a : Act} : ∀ (ps : List (Nat × Operand)) (vs : List (Nat × Value)), (∀ x ∈ ps, (ρ x.2).p σ κ (a.eval x.2)) → ps.map (fun x => (x.1, ρ x.2)) = vs.map (fun x => (x.1, Is x.2)) → ps.map (fun x => (x.1, a.eval x.2)) = vs := by
  intro ps
  induction ps with
  | nil => intro vs _ h; cases vs with
    | nil => rfl
    | cons _ _ => cases h
  | cons p ps ih =>
    intro vs h1 h2
    cases vs with
    | nil => cases h2
    | cons v vs =>
      simp only [List.map_cons, List.cons.injEq, Prod.mk.injEq] at h2 ⊢
      refine ⟨?_, ih vs (fun x hx => h1 x (by simp [hx])) h2.2⟩
      have h3 := h1 p (by simp)
      rw [h2.1.2] at h3
      have h3 : a.eval p.2 = v.2 := h3
      rw [h3, h2.1.1]
theorem Valid.litown {P : Program} {nid : Nat} {o : Oper} {ρ : Operand → AV} {h : Heap} {t el : TypeId} {n : Nat} {parts : Array (Nat × Operand)} (vs : List Value) (ho : o.op = .buildSlice t n parts)
    (hp : parts.toList.map (fun x => (x.1, ρ x.2)) = (pairs 0 vs).map (fun x => (x.1, Is x.2)))
    (hrun : ∀ w : World, (Instr.buildSlice t n (pairs 0 vs).toArray).run P w = .ok (.slice (some ⟨w.heap.size, 0, none⟩) n n) (w.alloc (.cells vs.toArray el))) (hl : vs.length = n) (hn : n ≤ maxLen) :
    Valid P nid o ρ h ⟨Own (8 * nid) 1 n vs, [], [(8 * nid, some (.row el 1 n vs))]⟩ :=
  .freshown (fun σ κ a hops => by
    have hv : (parts.map fun x => (x.1, a.eval x.2)) = (pairs 0 vs).toArray := by
      apply Array.ext'
      rw [Array.toList_map]
      exact parts_known parts.toList _ (fun x hx => hops x.2 (by rw [ho]; simp [Op.operands]; exact ⟨x.1, by simpa using hx⟩)) hp
    unfold execOp
    rw [ho]
    simp only [hv, hrun, Sem.run_bind, Result.andThen_ok, Sem.run_pure]) (by omega) hn
theorem made_ints (k : IntKind) (n : Nat) : madeCells (Value.cells (.int k 0)) n = (List.replicate n (Value.int k 0)).toArray := by
  apply Array.ext'
  apply List.ext_getElem
  · simp [madeCells]
  · intro i h1 h2
    simp [madeCells, Value.cells, Nat.mod_one]
theorem Valid.makeown {P : Program} {nid : Nat} {o : Oper} {ρ : Operand → AV} {h : Heap} {x y : Operand} {t el : TypeId} {kl kc kk : IntKind} {a : Int} {bytes : Nat} (ho : o.op = .makeSlice t x y) (ht : P.underlying t = some (.slice el)) (hi : (P.info? el).map (fun i => (i.zero, i.size, i.bytes)) = some (some (.int kk 0), 1, bytes))
    (hx : ρ x = Is (.int kl a)) (hy : ρ y = Is (.int kc a)) (h0 : 0 ≤ a) (hb : (bytes : Int) * a ≤ 281474976710656) (h63 : a ≤ 9223372036854775807) : Valid P nid o ρ h ⟨Own (8 * nid) 1 a.toNat (List.replicate a.toNat (.int kk 0)), [], [(8 * nid, some (.row el 1 a.toNat (List.replicate a.toNat (.int kk 0))))]⟩ :=
  .freshown (fun σ κ ac hops => by
    have e1 := hops x (by rw [ho]; simp [Op.operands])
    have e2 := hops y (by rw [ho]; simp [Op.operands])
    rw [hx] at e1; rw [hy] at e2
    have e1 : ac.eval x = .int kl a := e1
    have e2 : ac.eval y = .int kc a := e2
    obtain ⟨i, hi', hz, hs, hby⟩ : ∃ i, P.info? el = some i ∧ i.zero = some (.int kk 0) ∧ i.size = 1 ∧ i.bytes = bytes := by
      cases h : P.info? el with
      | none => rw [h] at hi; cases hi
      | some i =>
        rw [h] at hi
        simp only [Option.map_some, Option.some.injEq, Prod.mk.injEq] at hi
        exact ⟨i, rfl, hi.1, hi.2.1, hi.2.2⟩
    have hr := run_make (P := P) κ.w t el i _ ht hi' hz kl kc a a h0 (Int.le_refl _) (by rw [hby]; exact hb) h63
    rw [hs, Nat.mul_one, made_ints] at hr
    unfold execOp
    rw [ho]
    simp only [e1, e2, hr, Sem.run_bind, Result.andThen_ok, Sem.run_pure]) (by simp) (by simp only [maxLen]; omega)
theorem one_app {xs ys : List Value} (h1 : ∀ u ∈ xs, u.oneCell' = true) (h2 : ∀ u ∈ ys, u.oneCell' = true) : ∀ u ∈ xs ++ ys, u.oneCell' = true := fun u hu => by
  rcases List.mem_append.1 hu with h | h
  · exact h1 u h
  · exact h2 u h
theorem one_rep {v : Value} {n : Nat} (h : v.oneCell' = true) : ∀ u ∈ List.replicate n v, u.oneCell' = true := fun u hu => by
  rw [List.eq_of_mem_replicate hu]; exact h
theorem toNat_add (a b : Nat) : ((a : Int) + (b : Int)).toNat = a + b := by omega
theorem toNat_add1 (a : Nat) : ((a : Int) + 1).toNat = a + 1 := by omega
end Ab
end Go.Proofs.Ytmilegikgbmjpaa
