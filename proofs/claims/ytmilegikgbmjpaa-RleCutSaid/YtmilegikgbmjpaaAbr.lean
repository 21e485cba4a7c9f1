/-
  STRUCTS COMPARED, over abstract states: a string and a number.
-/
import Derived.Laws.StructEq
import Derived.Test.YtmilegikgbmjpaaAbq
namespace Go.Proofs.Ytmilegikgbmjpaa
open Go.RowKit
namespace Ab
section
variable {P : Program} {nid : Nat} {o : Oper} {ρ : Operand → AV} {h : Heap}
/-- a struct of a string and a number -/
structure TwoF (P : Program) (t : TypeId) (k : IntKind) (f g : Field) : Prop where
  und : P.underlying t = some (.struct (P.fieldsOf t))
  plain : P.stoodInHeld t = false
  guard : P.eqGuardType P.depth t = false
  flds : (P.fieldsOf t).toList = [f, g]
  nf : (f.name == "_") = false
  ng : (g.name == "_") = false
  sf : P.underlying f.type = some .string
  sg : P.underlying g.type = some (.int k)
  pf : ∀ (s : ByteArray) (v : Value) (w : World), (part f.type #[.string s, v] f.offset).run P w = .ok (.string s) w
  pg : ∀ (u : Value) (z : Int) (w : World), (part g.type #[u, .int k z] g.offset).run P w = .ok (.int k z) w
theorem TwoF.run {t : TypeId} {k : IntKind} {f g : Field} (T : TwoF P t k f g) (a b : ByteArray) (m n : Int) (w : World) :
    (Op.equalIn 10000 t (.agg #[.string a, .int k m]) (.agg #[.string b, .int k n])).run P w = .ok (decide (a = b ∧ m = n)) w := by
  have e1 : (f.name ≠ "_") := by have := T.nf; simpa using this
  have e2 : (g.name ≠ "_") := by have := T.ng; simpa using this
  rw [run_equalIn_struct w 9999 t _ _ T.und T.plain, T.flds]
  simp only [Op.eqFields, if_pos e1, if_pos e2, Sem.run_bind, T.pf, Result.andThen_ok, run_equalIn_string _ _ _ _ _ T.sf, ← beq_toListBytes]
  have hb : (a == b) = decide (a = b) := by rw [beq_toListBytes, bytes_beq]
  rw [hb]
  by_cases h1 : a = b
  · by_cases h2 : m = n
    · simp [h1, h2, T.pg, run_equalIn_int _ _ _ k _ _ _ T.sg, Result.andThen]
    · simp [h1, h2, T.pg, run_equalIn_int _ _ _ k _ _ _ T.sg, Result.andThen]
  · simp [h1]
theorem agg2 {σ : Names} {κ : Kw} {u v w : Value} (h : (Agg [Is u, Is v]).p σ κ w) : w = .agg #[u, v] := by
  obtain ⟨us, rfl, h⟩ := h
  match us, h with
  | [a, b], ⟨h1, h2, _⟩ =>
    have h1 : a = u := h1
    have h2 : b = v := h2
    rw [h1, h2]
theorem Valid.seqS {t t' : TypeId} {x y : Operand} {k : IntKind} {f g : Field} {a b : ByteArray} {m n : Int} (T : TwoF P t k f g) (ho : o.op = .binOp .eql t x y t') (hx : ρ x = Agg [Is (.string a), Is (.int k m)]) (hy : ρ y = Agg [Is (.string b), Is (.int k n)]) :
    Valid P nid o ρ h ⟨Is (.bool (decide (a = b ∧ m = n))), [], []⟩ :=
  .quiet _ (nosup rfl) fun σ κ ac hops => by
    have h1 := hops x (by rw [ho]; simp [Op.operands])
    have h2 := hops y (by rw [ho]; simp [Op.operands])
    rw [hx] at h1; rw [hy] at h2
    refine ⟨_, ?_, rfl⟩
    unfold execOp
    rw [ho]
    simp only [agg2 h1, agg2 h2, run_eqGuard_agg _ _ _ _ _ _ _ T.guard, run_eql_struct, T.run, Sem.run_bind, Sem.run_pure, Result.andThen_ok]
theorem Valid.sneS {t t' : TypeId} {x y : Operand} {k : IntKind} {f g : Field} {a b : ByteArray} {m n : Int} (T : TwoF P t k f g) (ho : o.op = .binOp .neq t x y t') (hx : ρ x = Agg [Is (.string a), Is (.int k m)]) (hy : ρ y = Agg [Is (.string b), Is (.int k n)]) :
    Valid P nid o ρ h ⟨Is (.bool (!decide (a = b ∧ m = n))), [], []⟩ :=
  .quiet _ (nosup rfl) fun σ κ ac hops => by
    have h1 := hops x (by rw [ho]; simp [Op.operands])
    have h2 := hops y (by rw [ho]; simp [Op.operands])
    rw [hx] at h1; rw [hy] at h2
    refine ⟨_, ?_, rfl⟩
    unfold execOp
    rw [ho]
    simp only [agg2 h1, agg2 h2, run_eqGuard_agg _ _ _ _ _ _ _ T.guard, run_neq_struct, T.run, Sem.run_bind, Sem.run_pure, Result.andThen_ok]
/-! ### rows of pairs: a string and a number each -/
/-- the cells of a row of pairs -/
def pcells (l : List (ByteArray × Int)) : List Value := l.flatMap fun p => [.string p.1, .int .i64 p.2]
theorem pcells_len (l : List (ByteArray × Int)) : (pcells l).length = l.length * 2 := by
  induction l with
  | nil => rfl
  | cons p l ih => rw [pcells, List.flatMap_cons, List.length_append, ← pcells, ih]; simp; omega
theorem pcells_at : ∀ (l : List (ByteArray × Int)) (i : Nat) (h : i < l.length), (pcells l)[i * 2]? = some (.string l[i].1) ∧ (pcells l)[i * 2 + 1]? = some (.int .i64 l[i].2)
  | p :: l, 0, _ => ⟨rfl, rfl⟩
  | p :: l, i + 1, h => by
    have ih := pcells_at l i (by simpa using h)
    have e : pcells (p :: l) = .string p.1 :: .int .i64 p.2 :: pcells l := rfl
    rw [e, show (i + 1) * 2 = i * 2 + 1 + 1 by omega]
    simpa using ih
theorem pcells_app (l m : List (ByteArray × Int)) : pcells (l ++ m) = pcells l ++ pcells m := by simp [pcells]
theorem pcells_cut (l : List (ByteArray × Int)) (i : Nat) (h : i < l.length) : ((pcells l).drop (i * 2)).take 2 = [.string l[i].1, .int .i64 l[i].2] := by
  obtain ⟨h1, h2⟩ := pcells_at l i h
  have hl := pcells_len l
  have e1 := List.getElem?_eq_some_iff.1 h1
  have e2 := List.getElem?_eq_some_iff.1 h2
  rw [List.drop_eq_getElem_cons (show i * 2 < (pcells l).length by omega), List.drop_eq_getElem_cons (show i * 2 + 1 < (pcells l).length by omega)]
  simp [e1.2, e2.2]
def ppairs : Nat → List (ByteArray × Int) → List (Nat × (ByteArray × Int))
  | _, [] => []
  | k, v :: l => (k, v) :: ppairs (k + 1) l
theorem ppairs_known {σ : Names} {κ : Kw} {a : Act} : ∀ (ps : List (Nat × Operand)) (vs : List (Nat × (ByteArray × Int))), (∀ x ∈ ps, (ρ x.2).p σ κ (a.eval x.2)) → ps.map (fun x => (x.1, ρ x.2)) = vs.map (fun x => (x.1, Agg [Is (.string x.2.1), Is (.int .i64 x.2.2)])) →
    ps.map (fun x => (x.1, a.eval x.2)) = vs.map (fun x => (x.1, .agg #[.string x.2.1, .int .i64 x.2.2])) := by
  intro ps
  induction ps with
  | nil => intro vs _ h; cases vs with
    | nil => rfl
    | cons _ _ => cases h
  | cons p ps ih =>
    intro vs h1 h2
    cases vs with
    | nil => cases h2
    | cons v vs =>
      simp only [List.map_cons, List.cons.injEq, Prod.mk.injEq] at h2 ⊢
      refine ⟨⟨h2.1.1, ?_⟩, ih vs (fun x hx => h1 x (by simp [hx])) h2.2⟩
      have h3 := h1 p (by simp)
      rw [h2.1.2] at h3
      exact agg2 h3
theorem Valid.litP {t el : TypeId} {n : Nat} {parts : Array (Nat × Operand)} (L : List (ByteArray × Int)) (ho : o.op = .buildSlice t n parts)
    (hp : parts.toList.map (fun x => (x.1, ρ x.2)) = (ppairs 0 L).map (fun x => (x.1, Agg [Is (.string x.2.1), Is (.int .i64 x.2.2)])))
    (hrun : ∀ w : World, (Instr.buildSlice t n ((ppairs 0 L).map (fun x => (x.1, .agg #[.string x.2.1, .int .i64 x.2.2]))).toArray).run P w = .ok (.slice (some ⟨w.heap.size, 0, none⟩) n n) (w.alloc (.cells (pcells L).toArray el))) (hl : L.length = n) (hn : n ≤ maxLen) :
    Valid P nid o ρ h ⟨Sl 2 n (pcells L), [], []⟩ :=
  .fresh _ rfl fun σ κ a hops => by
    have hv : (parts.map fun x => (x.1, a.eval x.2)) = ((ppairs 0 L).map (fun x => (x.1, Value.agg #[.string x.2.1, .int .i64 x.2.2]))).toArray := by
      apply Array.ext'
      rw [Array.toList_map]
      exact ppairs_known parts.toList _ (fun x hx => hops x.2 (by rw [ho]; simp [Op.operands]; exact ⟨x.1, by simpa using hx⟩)) hp
    refine ⟨_, κ.new (.cells (pcells L).toArray el) none, ?_, κ.new_le _ _, fun b hb => κ.new_old _ _ b hb, ⟨by rw [pcells_len, hl], .inr ⟨⟨κ.w.heap.size, 0, none⟩, n, rfl, Nat.le_refl _, hn, rd_new κ (pcells L) el⟩⟩⟩
    unfold execOp
    rw [ho]
    simp only [hv, hrun κ.w, Sem.run_bind, Result.andThen_ok, Sem.run_pure]
    rfl
theorem Valid.eltP {x y : Operand} {t el : TypeId} {n : Nat} {L : List (ByteArray × Int)} {k : IntKind} {i : Int} (ho : o.op = .indexAddr t x y) (ht : P.underlying t = some (.slice el)) (hsz : ∀ w, (sizeOf el).run P w = .ok 2 w) (hx : Reads (ρ x) 2 n (pcells L)) (hy : ρ y = Is (.int k i)) (hi : 0 ≤ i ∧ i < n) (hl : n = L.length) :
    Valid P nid o ρ h ⟨Elt [.string (L.getD i.toNat (ByteArray.empty, 0)).1, .int .i64 (L.getD i.toNat (ByteArray.empty, 0)).2], [], []⟩ := by
  have hv := Valid.eltaddr (P := P) (nid := nid) (h := h) ho ht hsz hx hy hi
  have hlt : i.toNat < L.length := by omega
  rwa [pcells_cut L i.toNat hlt, ← getD_lt L i.toNat (ByteArray.empty, 0) hlt] at hv
end
end Ab
end Go.Proofs.Ytmilegikgbmjpaa
