/-
  INDEX STORES over abstract states: variables that are arrays, and made rows that are written, as chunks of known cells.
-/
import Derived.Test.YtmilegikgbmjpaaAbn
namespace Go.Proofs.Ytmilegikgbmjpaa
open Go.RowKit
namespace Ab
/-- a slice over all of a block of the call's own, whose cells may turn -/
def Mrow (id n : Nat) : AV := ⟨fun σ _ u => ∃ b, σ id = .pointer (some ⟨b, 0, none⟩) ∧ u = .slice (some ⟨b, 0, none⟩) n n, [id],
  fun hs ⟨b, h1, h2⟩ => ⟨b, (hs id (by simp)).trans h1, h2⟩, fun _ h => h⟩
theorem leq_mrow {θ : Nat → Nat} {A B : AV} {id id' n n' : Nat} (h : A = Mrow id n) (h' : B = Mrow id' n') (hθ : Nat.beq (θ id') id = true) (e : n = n') : A.leq θ B := fun σ κ u hu => by
  subst h h' e
  have := Nat.eq_of_beq_eq_true hθ
  subst this; exact hu
theorem is_nosup (l : List Value) : (l.map Is).flatMap AV.sup = [] := by induction l <;> simp_all [Is]
theorem all2_is {σ : Names} {κ : Kw} : ∀ l : List Value, All2 σ κ (l.map Is) l
  | [] => trivial
  | _ :: l => ⟨rfl, all2_is l⟩
theorem made_cells {v : Value} (h : v.cells = #[v]) (n : Nat) : madeCells v.cells n = (List.replicate n v).toArray := by
  apply Array.ext'
  apply List.ext_getElem
  · simp [madeCells]
  · intro i h1 h2
    simp [madeCells, h, Nat.mod_one]
/-- the cells of an array, by a list -/
def Arr {G : Type} (f : G → Value) (l : List G) : List AV := (l.map f).map Is
theorem arr_at {G : Type} {f : G → Value} {l : List G} {i : Nat} (d : G) (h : i < l.length) : (Arr f l)[i]? = some (Is (f (l.getD i d))) := by
  simp [Arr, List.getD_eq_getElem?_getD, List.getElem?_eq_getElem h]
theorem arr_set {G : Type} {f : G → Value} {l : List G} {i : Nat} {v : G} (h : i < l.length) : (Arr f l).take i ++ [Is (f v)] ++ (Arr f l).drop (i + 1) = Arr f (l.set i v) := by
  have e : (Arr f l).set i (Is (f v)) = Arr f (l.set i v) := by simp [Arr, List.map_set]
  rw [← e, List.set_eq_take_append_cons_drop, if_pos (by simpa [Arr] using h)]
  simp
theorem arr_rep {G : Type} {f : G → Value} {z : G} {v : Value} {n : Nat} (h : f z = v) : (List.replicate n v).map Is = Arr f (List.replicate n z) := by
  simp [Arr, h]
section
variable {P : Program} {nid : Nat} {o : Oper} {ρ : Operand → AV} {h : Heap}
theorem Valid.idxarr {x y : Operand} {t el : TypeId} {e n id off : Nat} {k : IntKind} {i : Int} (ho : o.op = .indexAddr t x y) (ht : P.underlying t = some (.array n el)) (hsz : ∀ w, (sizeOf el).run P w = .ok e w) (hx : ρ x = Ptr id off) (hy : ρ y = Is (.int k i)) (hi : 0 ≤ i ∧ i < n) :
    Valid P nid o ρ h ⟨Ptr id (off + i.toNat * e), [], []⟩ :=
  .quiet _ (fun s hs => ⟨x, by rw [ho]; simp [Op.operands], by rw [hx]; exact hs⟩) fun σ κ a hops => by
    have h1 := hops x (by rw [ho]; simp [Op.operands])
    have h2 := hops y (by rw [ho]; simp [Op.operands])
    rw [hx] at h1; rw [hy] at h2
    obtain ⟨b, hσ, hu⟩ := h1
    have h2 : a.eval y = .int k i := h2
    refine ⟨.pointer (some ⟨b, off + i.toNat * e, none⟩), ?_, b, hσ, rfl⟩
    unfold execOp
    rw [ho]
    simp [hu, h2, Instr.indexAt, Instr.sureAddr, asIntOf, run_underlying ht, hsz, hi.1, hi.2, Result.andThen, Addr.add]
theorem Valid.idxM {x y : Operand} {t el : TypeId} {e n id : Nat} {k : IntKind} {i : Int} (ho : o.op = .indexAddr t x y) (ht : P.underlying t = some (.slice el)) (hsz : ∀ w, (sizeOf el).run P w = .ok e w) (hx : ρ x = Mrow id n) (hy : ρ y = Is (.int k i)) (hi : 0 ≤ i ∧ i < n) :
    Valid P nid o ρ h ⟨Ptr id (i.toNat * e), [], []⟩ :=
  .quiet _ (fun s hs => ⟨x, by rw [ho]; simp [Op.operands], by rw [hx]; exact hs⟩) fun σ κ a hops => by
    have h1 := hops x (by rw [ho]; simp [Op.operands])
    have h2 := hops y (by rw [ho]; simp [Op.operands])
    rw [hx] at h1; rw [hy] at h2
    obtain ⟨b, hσ, hu⟩ := h1
    have h2 : a.eval y = .int k i := h2
    refine ⟨.pointer (some ⟨b, i.toNat * e, none⟩), ?_, b, hσ, rfl⟩
    unfold execOp
    rw [ho]
    simp [hu, h2, Instr.indexAt, asIntOf, run_underlying ht, hsz, hi.1, hi.2, Result.andThen, Addr.add]
    exact fun h => h.symm
theorem Valid.lenM {x : Operand} {t : TypeId} {id n : Nat} {el : TypeId} (ho : o.op = .call { callee := .builtin .len, args := #[x], argTypes := #[t] }) (ht : P.underlying t = some (.slice el)) (hx : ρ x = Mrow id n) :
    Valid P nid o ρ h ⟨Is (.int .i64 (n : Int)), [], []⟩ :=
  .quiet _ (nosup rfl) fun σ κ a hops => by
    have h1 := hops x (by rw [ho]; simp [Op.operands, Call.operands])
    rw [hx] at h1
    obtain ⟨b, _, hu⟩ := h1
    refine ⟨.int .i64 (n : Int), ?_, rfl⟩
    unfold execOp
    rw [ho]
    simp [resolve, invoke, builtin, Builtin.len_, run_underlying ht, hu, goInt, Result.andThen]
theorem Valid.loadarr {G : Type} {f : G → Value} {l : List G} {t t0 : TypeId} {x : Operand} {id off : Nat} (d : G) (ho : o.op = .load t x) (hag : ∀ w, (isAgg t).run P w = .ok false w) (hx : ρ x = Ptr id off) (hh : h id = some (.var t0 (Arr f l))) (hi : off < l.length) : Valid P nid o ρ h ⟨Is (f (l.getD off d)), [id], []⟩ :=
  .load _ ho hag hx hh (arr_at d hi)
theorem Valid.storearr {G : Type} {f : G → Value} {l : List G} {t t0 : TypeId} {x y : Operand} {id off : Nat} (v : G) (ho : o.op = .store t x y) (hsz : ∀ w, (sizeOf t).run P w = .ok 1 w) (hx : ρ x = Ptr id off) (hh : h id = some (.var t0 (Arr f l))) (hi : off < l.length) (hy : ρ y = Is (f v)) (h1 : One (ρ y)) :
    Valid P nid o ρ h ⟨Is undef, [id], [(id, some (.var t0 (Arr f (l.set off v))))]⟩ := by
  have hv := Valid.store (P := P) (nid := nid) ho hsz hx hh (by simp [Arr]; omega) h1
  rw [hy, arr_set hi] at hv
  exact hv
theorem Valid.allocarr {G : Type} {f : G → Value} {t : TypeId} {z : Value} {zg : G} {n : Nat} (ho : o.op = .alloc t) (hz : ∀ w, (zeroValue t).run P w = .ok z w) (hc : z.cells.toList = List.replicate n (f zg)) :
    Valid P nid o ρ h ⟨Ptr (8 * nid) 0, [], [(8 * nid, some (.var t (Arr f (List.replicate n zg))))]⟩ := by
  have hv := Valid.alloc (P := P) (nid := nid) (ρ := ρ) (h := h) _ ho hz hc
  rwa [arr_rep rfl] at hv
/-- 'make', of a row that will be written -/
theorem Valid.makevar {G : Type} (f : G → Value) (zg : G) {x y : Operand} {t el : TypeId} {kl kc : IntKind} {a : Int} {bytes : Nat} (ho : o.op = .makeSlice t x y) (ht : P.underlying t = some (.slice el)) (hi : (P.info? el).map (fun i => (i.zero, i.size, i.bytes)) = some (some (f zg), 1, bytes)) (hcs : (f zg).cells = #[f zg])
    (hx : ρ x = Is (.int kl a)) (hy : ρ y = Is (.int kc a)) (h0 : 0 ≤ a) (hb : (bytes : Int) * a ≤ 281474976710656) (h63 : a ≤ 9223372036854775807) :
    Valid P nid o ρ h ⟨Mrow (8 * nid) a.toNat, [], [(8 * nid, some (.var el (Arr f (List.replicate a.toNat zg))))]⟩ where
  run := fun base σ κ h' ac next Q hops _ hr hb' hsn hfr hk => by
    have e1 := hops x (by rw [ho]; simp [Op.operands])
    have e2 := hops y (by rw [ho]; simp [Op.operands])
    rw [hx] at e1; rw [hy] at e2
    have e1 : ac.eval x = .int kl a := e1
    have e2 : ac.eval y = .int kc a := e2
    obtain ⟨i, hi', hz, hs, hby⟩ : ∃ i, P.info? el = some i ∧ i.zero = some (f zg) ∧ i.size = 1 ∧ i.bytes = bytes := by
      cases h : P.info? el with
      | none => rw [h] at hi; cases hi
      | some i =>
        rw [h] at hi
        simp only [Option.map_some, Option.some.injEq, Prod.mk.injEq] at hi
        exact ⟨i, rfl, hi.1, hi.2.1, hi.2.2⟩
    have hrn := run_make (P := P) κ.w t el i _ ht hi' hz kl kc a a h0 (Int.le_refl _) (by rw [hby]; exact hb) h63
    rw [hs, Nat.mul_one, made_cells hcs] at hrn
    have hv : (execOp ac.eval o).run P κ.w = .ok (.value (.slice (some ⟨κ.w.heap.size, 0, none⟩) a.toNat a.toNat)) (κ.w.alloc (.cells (List.replicate a.toNat (f zg)).toArray el)) := by
      unfold execOp
      rw [ho]
      simp only [e1, e2, hrn, Sem.run_bind, Result.andThen_ok, Sem.run_pure]
    have hid : 8 * nid / 8 = nid := by omega
    unfold Oper.wp
    rw [hv]
    let us : List Value := List.replicate a.toNat (f zg)
    have hall : All2 (upd σ (8 * nid) (.pointer (some ⟨κ.w.heap.size, 0, none⟩))) (κ.new (.cells us.toArray el) (some 0)) (Arr f (List.replicate a.toNat zg)) us := by
      rw [← arr_rep (f := f) (z := zg) rfl]; exact all2_is us
    exact hk _ (upd σ (8 * nid) (.pointer (some ⟨κ.w.heap.size, 0, none⟩))) (κ.new (.cells us.toArray el) (some 0)) (κ.new_le _ _) (fun b hb2 => κ.new_old _ _ b (hb' b hb2)) (fun i hi => upd_other _ _ _ _ (fun e => hi (by omega)))
      ⟨κ.w.heap.size, upd_same _ _ _, rfl⟩
      (hr.set (κ.new_le _ _) (8 * nid) (.pointer (some ⟨κ.w.heap.size, 0, none⟩)) (.var el (Arr f (List.replicate a.toNat zg))) (fun _ => false)
        (fun i d hd _ _ g hg => by have := κ.new_old (.cells us.toArray el) (some 0) g (blk_lt hr hd hg); exact ⟨this.2, this.1⟩)
        ⟨κ.w.heap.size, us.toArray, rfl, (κ.new_at _ _).1, by simpa using hall, (κ.new_at _ _).2⟩
        (fun i g hi _ _ hg he => by
          cases hx : h' i with
          | none => exact hi hx
          | some d =>
            have := blk_lt hr hx hg
            simp only [blk, Option.some.injEq] at he; omega)
        (fun g hg hbg => by simp only [blk, Option.some.injEq] at hg; have := hb' g hbg; omega)
        (fun i d hd _ _ j hj => upd_other _ _ _ _ (fun e => (hfr i d hd).2 j hj (by omega))) _ (upd_same _ _ _) (fun i hi _ => upd_other _ _ _ _ hi) (fun i _ hf => by cases hf))
  sup := fun U hU _ => ⟨fun s hs => .inr (by have : s ∈ [8 * nid] := hs; simp at this; omega), fun i c hc s hs => by
    simp only [List.mem_singleton, Prod.mk.injEq, Option.some.injEq] at hc
    obtain ⟨_, rfl⟩ := hc
    have : s ∈ (Arr f (List.replicate a.toNat zg)).flatMap AV.sup := hs
    rw [Arr, is_nosup] at this; cases this⟩
  wr := fun x hx => by simp at hx; subst hx; exact .inr (by simp)
end
theorem all2_eq {σ : Names} {κ : Kw} : ∀ {l us : List Value}, All2 σ κ (l.map Is) us → us = l
  | [], [], _ => rfl
  | v :: l, u :: us, ⟨h1, h2⟩ => by
    have h1 : u = v := h1
    rw [h1, all2_eq h2]
/-- what was written, and is only read from here on -/
theorem Ent.freeze {st : St} (k id n : Nat) {el : TypeId} {vals : List Value} (hk : st.env k = Mrow id n) (hh : st.heap id = some (.var el (vals.map Is))) (hl : vals.length = n) (hn : n ≤ maxLen) : Ent st ⟨upd st.env k (Sl 1 n vals), upd st.heap id none, st.cnt⟩ := by
  intro X a w ⟨hc1, σ, κ, hw, h⟩
  have h1 := h.env_ k
  rw [hk] at h1
  obtain ⟨b, hσ, hu⟩ := h1
  have h2 := h.hr.at_ id _ hh
  rw [hσ] at h2
  obtain ⟨b', us, e, hheap, hall, hown⟩ := h2
  cases e
  have hus := all2_eq hall
  have hblk : blk (σ id) = some b := by rw [hσ]; rfl
  let κ' : Kw := ⟨κ.w, fun g => if g = b then none else κ.own g, fun g m hg => by
    split at hg
    · cases hg
    · exact κ.lt g m hg⟩
  have hle : κ.le κ' := { os := rfl, tape := rfl, output := rfl, size := Nat.le_refl _, still := fun g hg ho => ⟨by simp [κ', ho], rfl⟩, grow := fun g m hm => ⟨fun k' hk' => by
    have hk' : (if g = b then none else κ.own g) = some k' := hk'
    split at hk'
    · cases hk'
    · rw [hm] at hk'; cases hk'; exact Nat.le_refl _, fun j u _ hu => hu⟩ }
  have hno : ∀ i, i ≠ id → ∀ c, upd st.heap id none i = some c → st.heap i = some c := fun i hi c hc => by rwa [upd_other _ _ _ _ hi] at hc
  have hne : ∀ i c, upd st.heap id none i = some c → i ≠ id := fun i c hc e => by rw [e, upd_same] at hc; cases hc
  have hnn : ∀ i, upd st.heap id none i ≠ none → i ≠ id ∧ st.heap i ≠ none := fun i hi => by
    have : i ≠ id := fun e => hi (by rw [e, upd_same])
    exact ⟨this, by rwa [upd_other _ _ _ _ this] at hi⟩
  refine ⟨hc1, σ, κ', hw, { tmps := h.tmps, prot := (by
      obtain ⟨D, ms, hp⟩ := h.prot
      have hb := hp.far id _ b hh hblk
      refine ⟨D, ms, hp.to hle (fun g hg => ⟨?_, rfl⟩) (fun g hg => ⟨?_, rfl⟩) (fun i c g hc hg => hp.far i c g (hno i (hne i c hc) c hc) hg) (fun I k e => ?_)⟩
      · have : g ≠ b := fun e => hb.1 (e ▸ hg)
        simp [κ', this]
      · have : g ≠ b := fun e => hb.2 (e ▸ hg)
        simp [κ', this]
      · by_cases e0 : 0 = id
        · subst e0; simp [idxOf, upd_same] at e
        · rw [← e]; exact (idxOf_congr (upd_other _ _ _ _ e0)).symm), base := h.base, pin := h.pin, env_ := fun t => ?_, le0 := Kw.le_trans h.le0 hle, old := fun g hg => ?_, hr := ⟨fun i c hc => ?_, fun i j g hij hi hj => ?_, fun i c g hc => ?_⟩, sup := fun t s hs => ?_, hsup := fun i c hc => ?_ }⟩
  · by_cases e : t = k
    · subst e
      simp only [upd_same]
      rw [hu]
      refine ⟨by omega, .inr ⟨⟨b, 0, none⟩, n, rfl, Nat.le_refl _, hn, fun j u hj => ⟨rfl, ?_, fun m hm => ?_⟩⟩⟩
      · show World.cell? κ.w ⟨b, 0 + j, none⟩ = some u
        simp only [World.cell?, hheap]
        rw [← hus] at hj
        simpa using hj
      · have hm : (if b = b then none else κ.own b) = some m := hm
        simp at hm
    · simp only [upd_other _ _ _ _ e]
      exact (st.env t).mono hle (h.env_ t)
  · have hi := hne i c hc
    have hc' := hno i hi c hc
    refine Chunk.keep hle (fun g hg => ⟨rfl, ?_⟩) (h.hr.at_ i c hc')
    have hgb : g ≠ b := fun e => h.hr.far i id g hi (by rw [hc']; exact fun x => by cases x) (by rw [hh]; exact fun x => by cases x) hg (by rw [hblk, e])
    simp [κ', hgb]
  · exact h.hr.far i j g hij (hnn i hi).2 (hnn j hj).2
  · exact h.hr.base i c g (hno i (hne i c hc) c hc)
  · have hgb : g ≠ b := fun e => h.hr.base id _ b hh hblk (e ▸ hg)
    have := h.old g hg
    exact ⟨by simp [κ', hgb, this.1], this.2⟩
  · by_cases e : t = k
    · subst e
      simp only [upd_same] at hs
      cases hs
    · simp only [upd_other _ _ _ _ e] at hs
      exact h.sup t s hs
  · exact h.hsup i c (hno i (hne i c hc) c hc)
theorem all2le_is {θ : Nat → Nat} : ∀ l : List Value, All2le θ (l.map Is) (l.map Is)
  | [] => trivial
  | _ :: l => ⟨fun _ _ _ h => h, all2le_is l⟩
theorem hp_arr {G : Type} {hp : Heap} {θ : Nat → Nat} {k : Nat} {t : TypeId} {f : G → Value} {l l' : List G} (h : hp (θ k) = some (.var t (Arr f l))) (e : l = l') : ∃ c, hp (θ k) = some c ∧ Chunk.leq θ c (.var t (Arr f l')) := ⟨_, h, .var (e ▸ all2le_is _)⟩
theorem suph_arr {G : Type} {f : G → Value} {l : List G} {t : TypeId} {i cnt : Nat} (hi : Nat.blt (i / 8) cnt = true) : i / 8 < cnt ∧ ∀ s ∈ (Chunk.var t (Arr f l)).sup, s / 8 < cnt :=
  ⟨by simpa [Nat.blt_eq] using hi, fun s hs => by
    have : s ∈ (Arr f l).flatMap AV.sup := hs
    rw [Arr, is_nosup] at this; cases this⟩
section
variable {P : Program} {nid : Nat} {o : Oper} {ρ : Operand → AV} {h : Heap}
theorem Valid.idxarr1 {x y : Operand} {t el : TypeId} {n id : Nat} {k : IntKind} {i : Int} (ho : o.op = .indexAddr t x y) (ht : P.underlying t = some (.array n el)) (hsz : ∀ w, (sizeOf el).run P w = .ok 1 w) (hx : ρ x = Ptr id 0) (hy : ρ y = Is (.int k i)) (hi : 0 ≤ i ∧ i < n) : Valid P nid o ρ h ⟨Ptr id i.toNat, [], []⟩ := by
  have hv := Valid.idxarr (P := P) (nid := nid) (h := h) ho ht hsz hx hy hi
  rwa [Nat.mul_one, Nat.zero_add] at hv
theorem Valid.idxM1 {x y : Operand} {t el : TypeId} {n id : Nat} {k : IntKind} {i : Int} (ho : o.op = .indexAddr t x y) (ht : P.underlying t = some (.slice el)) (hsz : ∀ w, (sizeOf el).run P w = .ok 1 w) (hx : ρ x = Mrow id n) (hy : ρ y = Is (.int k i)) (hi : 0 ≤ i ∧ i < n) : Valid P nid o ρ h ⟨Ptr id i.toNat, [], []⟩ := by
  have hv := Valid.idxM (P := P) (nid := nid) (h := h) ho ht hsz hx hy hi
  rwa [Nat.mul_one] at hv
end
end Ab
end Go.Proofs.Ytmilegikgbmjpaa
