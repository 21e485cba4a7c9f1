/-
  OPERATIONS OVER ABSTRACT STATES: strings, slices, variables, append.
-/
import Derived.Test.YtmilegikgbmjpaaAb4
import Derived.Maps.AppendAt
import Derived.Laws.BytesString
import Derived.Laws.Rows
import Derived.Laws.Cells
namespace Go.Proofs.Ytmilegikgbmjpaa
open Go.RowKit
namespace Ab
/-- a value that is a slice which reads as these cells -/
def Reads (A : AV) (e n : Nat) (xs : List Value) : Prop := ∀ σ κ v, A.p σ κ v → SlP κ e n xs v
theorem Reads.sl {A : AV} {e n : Nat} {xs : List Value} (h : A = Sl e n xs) : Reads A e n xs := fun σ κ v hv => by subst h; exact hv
theorem Reads.own {A : AV} {id e n : Nat} {xs : List Value} (h : A = Own id e n xs) : Reads A e n xs := fun σ κ v hv => by subst h; exact hv.2
theorem Reads.nil {A : AV} {e : Nat} (h : A = Is (.slice none 0 0)) : Reads A e 0 [] := fun σ κ v hv => by
  subst h
  have hv : v = .slice none 0 0 := hv
  exact ⟨by simp, .inl ⟨hv, rfl⟩⟩
theorem SlP.form {κ : Kw} {e n : Nat} {xs : List Value} {u : Value} (h : SlP κ e n xs u) : ∃ a c, u = .slice a n c := by
  obtain ⟨_, ⟨rfl, rfl⟩ | ⟨ad, c, rfl, _⟩⟩ := h
  · exact ⟨none, 0, rfl⟩
  · exact ⟨some ad, c, rfl⟩
theorem SlP.len {κ : Kw} {e n : Nat} {xs : List Value} {u : Value} (h : SlP κ e n xs u) : n ≤ maxLen := by
  obtain ⟨_, ⟨rfl, rfl⟩ | ⟨ad, c, rfl, h1, h2, _⟩⟩ := h
  · unfold maxLen; omega
  · omega
theorem add_eq {ad : Addr} {j : Nat} (h : ad.spot = none) : ad.add j = ⟨ad.block, ad.off + j, none⟩ := by
  unfold Addr.add
  split
  · rename_i h0; subst h0; cases ad; simp at h; simp [h]
  · rfl
section
variable {P : Program} {nid : Nat} {o : Oper} {ρ : Operand → AV} {h : Heap}
theorem Valid.len {x : Operand} {t : TypeId} {e n : Nat} {xs : List Value} {el : TypeId} (ho : o.op = .call { callee := .builtin .len, args := #[x], argTypes := #[t] }) (ht : P.underlying t = some (.slice el)) (hx : Reads (ρ x) e n xs) :
    Valid P nid o ρ h ⟨Is (.int .i64 (n : Int)), [], []⟩ :=
  .quiet _ (nosup rfl) fun σ κ a hops => by
    obtain ⟨b, c, hu⟩ := (hx σ κ _ (hops x (by rw [ho]; simp [Op.operands, Call.operands]))).form
    refine ⟨.int .i64 (n : Int), ?_, rfl⟩
    unfold execOp
    rw [ho]
    simp [resolve, invoke, builtin, Builtin.len_, run_underlying ht, hu, goInt, Result.andThen]
theorem Valid.slen {x : Operand} {t : TypeId} {s : ByteArray} (ho : o.op = .call { callee := .builtin .len, args := #[x], argTypes := #[t] }) (ht : P.underlying t = some .string) (hx : ρ x = Is (.string s)) :
    Valid P nid o ρ h ⟨Is (.int .i64 (s.size : Int)), [], []⟩ :=
  .known _ fun ev w hev => by
    have hu := hev x (by rw [ho]; simp [Op.operands, Call.operands]) _ hx
    unfold execOp
    rw [ho]
    simp [resolve, invoke, builtin, Builtin.len_, run_underlying ht, hu, goInt, Result.andThen]
theorem Valid.min {x y : Operand} {ts : Array TypeId} {k : IntKind} {a b : Int} (ho : o.op = .call { callee := .builtin .min, args := #[x, y], argTypes := ts }) (hx : ρ x = Is (.int k a)) (hy : ρ y = Is (.int k b)) :
    Valid P nid o ρ h ⟨Is (.int k (min a b)), [], []⟩ :=
  .known _ fun ev w hev => by
    have h1 := hev x (by rw [ho]; simp [Op.operands, Call.operands]) _ hx
    have h2 := hev y (by rw [ho]; simp [Op.operands, Call.operands]) _ hy
    have e : (if b < a then b else a) = Min.min a b := by rw [Int.min_def]; split <;> split <;> omega
    unfold execOp
    rw [ho]
    simp [resolve, invoke, builtin, Builtin.min_, Builtin.min2, h1, h2, e]
theorem Valid.max {x y : Operand} {ts : Array TypeId} {k : IntKind} {a b : Int} (ho : o.op = .call { callee := .builtin .max, args := #[x, y], argTypes := ts }) (hx : ρ x = Is (.int k a)) (hy : ρ y = Is (.int k b)) :
    Valid P nid o ρ h ⟨Is (.int k (max a b)), [], []⟩ :=
  .known _ fun ev w hev => by
    have h1 := hev x (by rw [ho]; simp [Op.operands, Call.operands]) _ hx
    have h2 := hev y (by rw [ho]; simp [Op.operands, Call.operands]) _ hy
    have e : (if a < b then b else a) = Max.max a b := by rw [Int.max_def]; split <;> split <;> omega
    unfold execOp
    rw [ho]
    simp [resolve, invoke, builtin, Builtin.max_, Builtin.max2, h1, h2, e]
/-- the byte at a place -/
def bat (s : ByteArray) (i : Int) : UInt8 := s.data.toList.getD i.toNat 0
theorem Valid.sindex {x y : Operand} {t : TypeId} {s : ByteArray} {k : IntKind} {i : Int} (ho : o.op = .index t x y) (ht : P.underlying t = some .string) (hx : ρ x = Is (.string s)) (hy : ρ y = Is (.int k i)) (hi : 0 ≤ i ∧ i < s.size) :
    Valid P nid o ρ h ⟨Is (.int .u8 ((bat s i).toNat : Int)), [], []⟩ :=
  .known _ fun ev w hev => by
    have h1 := hev x (by rw [ho]; simp [Op.operands]) _ hx
    have h2 := hev y (by rw [ho]; simp [Op.operands]) _ hy
    have h3 : i.toNat < s.size := by omega
    have h4 : s[i.toNat]? = some (bat s i) := by
      unfold bat
      have h3' : i.toNat < s.data.toList.length := by simpa using h3
      rw [List.getD_eq_getElem?_getD, List.getElem?_eq_getElem h3']
      simp only [Option.getD_some]
      rw [getElem?_pos s i.toNat h3]
      rfl
    unfold execOp
    rw [ho]
    simp only [h1, h2, Instr.index, asIntOf, Sem.run_bind, Sem.run_pure, Result.andThen_ok, run_underlying ht, if_pos hi.1, h4]
/-- 's[lo:hi]' of a string -/
theorem run_sliceBound (k : IntKind) (i : Int) (y : Nat) (c : BoundsCode) (h0 : 0 ≤ i) (h1 : i ≤ y) (w : World) : (Instr.sliceBound (.int k i) y c).run P w = .ok i.toNat w := by
  simp only [Instr.sliceBound, asIntOf, Sem.run_bind, Sem.run_pure, Result.andThen_ok]
  rw [if_pos ⟨h0, h1⟩]
  rfl
theorem Valid.sslice {x y z : Operand} {t : TypeId} {s : ByteArray} {k k' : IntKind} {i j : Int} (ho : o.op = .slice t x (some y) (some z) none) (ht : P.underlying t = some .string) (hx : ρ x = Is (.string s)) (hy : ρ y = Is (.int k i)) (hz : ρ z = Is (.int k' j))
    (hi : 0 ≤ i ∧ i ≤ j ∧ j ≤ s.size) : Valid P nid o ρ h ⟨Is (.string (s.extract i.toNat j.toNat)), [], []⟩ :=
  .known _ fun ev w hev => by
    have h1 := hev x (by rw [ho]; simp [Op.operands]) _ hx
    have h2 := hev y (by rw [ho]; simp [Op.operands]) _ hy
    have h3 := hev z (by rw [ho]; simp [Op.operands]) _ hz
    have e1 : (Instr.sliceBound (.int k' j) s.size .sliceAlen).run P w = .ok j.toNat w := run_sliceBound k' j s.size _ (by omega) (by omega) w
    have e2 : (Instr.sliceBound (.int k i) j.toNat .sliceB).run P w = .ok i.toNat w := run_sliceBound k i j.toNat _ (by omega) (by omega) w
    unfold execOp
    rw [ho]
    simp [h1, h2, h3, Instr.sliceAt, Instr.slice, Instr.sliceBounds, run_underlying ht, e1, e2, Result.andThen]
theorem Valid.ssliceto {x z : Operand} {t : TypeId} {s : ByteArray} {k' : IntKind} {j : Int} (ho : o.op = .slice t x none (some z) none) (ht : P.underlying t = some .string) (hx : ρ x = Is (.string s)) (hz : ρ z = Is (.int k' j))
    (hi : 0 ≤ j ∧ j ≤ s.size) : Valid P nid o ρ h ⟨Is (.string (s.extract 0 j.toNat)), [], []⟩ :=
  .known _ fun ev w hev => by
    have h1 := hev x (by rw [ho]; simp [Op.operands]) _ hx
    have h3 := hev z (by rw [ho]; simp [Op.operands]) _ hz
    have e1 : (Instr.sliceBound (.int k' j) s.size .sliceAlen).run P w = .ok j.toNat w := run_sliceBound k' j s.size _ (by omega) (by omega) w
    unfold execOp
    rw [ho]
    simp [h1, h3, Instr.sliceAt, Instr.slice, Instr.sliceBounds, run_underlying ht, e1, Result.andThen]
theorem Valid.sslicefrom {x y : Operand} {t : TypeId} {s : ByteArray} {k : IntKind} {i : Int} (ho : o.op = .slice t x (some y) none none) (ht : P.underlying t = some .string) (hx : ρ x = Is (.string s)) (hy : ρ y = Is (.int k i))
    (hi : 0 ≤ i ∧ i ≤ s.size) : Valid P nid o ρ h ⟨Is (.string (s.extract i.toNat s.size)), [], []⟩ :=
  .known _ fun ev w hev => by
    have h1 := hev x (by rw [ho]; simp [Op.operands]) _ hx
    have h2 := hev y (by rw [ho]; simp [Op.operands]) _ hy
    have e2 : (Instr.sliceBound (.int k i) s.size .sliceB).run P w = .ok i.toNat w := run_sliceBound k i s.size _ (by omega) (by omega) w
    unfold execOp
    rw [ho]
    simp [h1, h2, Instr.sliceAt, Instr.slice, Instr.sliceBounds, run_underlying ht, e2, Result.andThen]
/-- the address of an element -/
theorem Valid.eltaddr {x y : Operand} {t el : TypeId} {e n : Nat} {xs : List Value} {k : IntKind} {i : Int} (ho : o.op = .indexAddr t x y) (ht : P.underlying t = some (.slice el)) (hsz : ∀ w, (sizeOf el).run P w = .ok e w) (hx : Reads (ρ x) e n xs) (hy : ρ y = Is (.int k i)) (hi : 0 ≤ i ∧ i < n) :
    Valid P nid o ρ h ⟨Elt ((xs.drop (i.toNat * e)).take e), [], []⟩ :=
  .quiet _ (nosup rfl) fun σ κ a hops => by
    have h1 := hx σ κ _ (hops x (by rw [ho]; simp [Op.operands]))
    have h2 := hops y (by rw [ho]; simp [Op.operands])
    rw [hy] at h2
    have h2 : a.eval y = .int k i := h2
    obtain ⟨hl, ⟨hu, rfl⟩ | ⟨ad, c, hu, hc1, hc2, hrd⟩⟩ := h1
    · omega
    · refine ⟨.pointer (some (ad.add (i.toNat * e))), ?_, ad.add (i.toNat * e), rfl, ?_⟩
      · unfold execOp
        rw [ho]
        simp [hu, h2, Instr.indexAt, asIntOf, run_underlying ht, hsz, hi.1, hi.2, Result.andThen]
      · intro j u hj
        have hj2 : xs[i.toNat * e + j]? = some u := by
          rw [List.getElem?_take] at hj
          split at hj
          · rwa [List.getElem?_drop] at hj
          · cases hj
        obtain ⟨s1, s2, s3⟩ := hrd _ u hj2
        rw [add_eq s1]
        exact ⟨rfl, by rw [Nat.add_assoc]; exact s2, fun m hm => by have := s3 m hm; simp only; omega⟩
/-- so, of one cell each: the element, told by a list -/
theorem Valid.eltaddr1 {G : Type} {x y : Operand} {t el : TypeId} {n : Nat} {f : G → Value} {l : List G} {k : IntKind} {i : Int} (d : G) (ho : o.op = .indexAddr t x y) (ht : P.underlying t = some (.slice el)) (hsz : ∀ w, (sizeOf el).run P w = .ok 1 w) (hx : Reads (ρ x) 1 n (l.map f)) (hy : ρ y = Is (.int k i)) (hi : 0 ≤ i ∧ i < n) (hn : n = l.length) :
    Valid P nid o ρ h ⟨Elt [f (l.getD i.toNat d)], [], []⟩ := by
  have hv := Valid.eltaddr (P := P) (nid := nid) (h := h) ho ht hsz hx hy hi
  have hlt : i.toNat < l.length := by omega
  have e : ((l.map f).drop (i.toNat * 1)).take 1 = [f (l.getD i.toNat d)] := by
    rw [Nat.mul_one, List.getD_eq_getElem?_getD, List.getElem?_eq_getElem hlt]
    rw [List.drop_eq_getElem_cons (by simpa using hlt)]
    simp
  rwa [e] at hv
theorem Valid.loadelt {x : Operand} {t : TypeId} {v : Value} {vs : List Value} (ho : o.op = .load t x) (hag : ∀ w, (isAgg t).run P w = .ok false w) (hx : ρ x = Elt (v :: vs)) : Valid P nid o ρ h ⟨Is v, [], []⟩ :=
  .quiet _ (nosup rfl) fun σ κ a hops => by
    have h1 := hops x (by rw [ho]; simp [Op.operands])
    rw [hx] at h1
    obtain ⟨ad, hu, hrd⟩ := h1
    obtain ⟨s1, s2, _⟩ := hrd 0 v rfl
    refine ⟨v, ?_, rfl⟩
    have e : (⟨ad.block, ad.off + 0, none⟩ : Addr) = ad := by cases ad; simp at s1; simp [s1]
    rw [e] at s2
    unfold execOp
    rw [ho]
    simp only [hu, Instr.loadAt, Instr.sureAddr, Sem.run_bind, Sem.run_pure, Result.andThen_ok, loadVar, hag]
    simp [load, Sem.run, s2, Result.andThen]
theorem Valid.loadeltagg {x : Operand} {t : TypeId} {vs : List Value} (ho : o.op = .load t x) (hag : ∀ w, (isAgg t).run P w = .ok true w) (hsz : ∀ w, (sizeOf t).run P w = .ok vs.length w) (hx : ρ x = Elt vs) : Valid P nid o ρ h ⟨Agg (vs.map Is), [], []⟩ :=
  .quiet _ (fun s hs => by
    have : ∀ l : List Value, (l.map Is).flatMap AV.sup = [] := fun l => by induction l <;> simp_all [Is]
    have hs' : s ∈ (vs.map Is).flatMap AV.sup := hs
    rw [this] at hs'; cases hs') fun σ κ a hops => by
    have h1 := hops x (by rw [ho]; simp [Op.operands])
    rw [hx] at h1
    obtain ⟨ad, hu, hrd⟩ := h1
    refine ⟨.agg vs.toArray, ?_, vs, rfl, ?_⟩
    · have hc := run_loadCells_list (P := P) (w := κ.w) ad vs (fun j v hj => by
        obtain ⟨s1, s2, _⟩ := hrd j v hj
        rw [add_eq s1]; exact s2)
      unfold execOp
      rw [ho]
      simp only [hu, Instr.loadAt, Instr.sureAddr, Sem.run_bind, Sem.run_pure, Result.andThen_ok, loadVar, hag, if_true, hsz, hc]
    · have : ∀ l : List Value, All2 σ κ (l.map Is) l := fun l => by
        induction l with
        | nil => trivial
        | cons v l ih => exact ⟨rfl, ih⟩
      exact this vs
/-- 'x[lo:hi]' of a slice -/
theorem sl_cut {κ : Kw} {e n : Nat} {xs : List Value} {ad : Addr} {c i j : Nat} (hl : xs.length = n * e) (hc2 : c ≤ maxLen) (hrd : Rd κ ad xs) (hij : i ≤ j) (hjn : j ≤ n) (hnc : n ≤ c) :
    SlP κ e (j - i) ((xs.drop (i * e)).take ((j - i) * e)) (.slice (some (if c = i then ad else ad.add (i * e))) (j - i) (c - i)) := by
  have hle : (j - i) * e ≤ xs.length - i * e := by
    rw [hl, ← Nat.sub_mul]
    exact Nat.mul_le_mul_right _ (by omega)
  refine ⟨by rw [List.length_take, List.length_drop]; omega, .inr ⟨_, _, rfl, by omega, by omega, fun q u hq => ?_⟩⟩
  have hq2 : xs[i * e + q]? = some u := by
    rw [List.getElem?_take] at hq
    split at hq
    · rwa [List.getElem?_drop] at hq
    · cases hq
  by_cases hci : c = i
  · exfalso
    have : (j - i) * e = 0 := by have : j - i = 0 := by omega
                                 rw [this]; simp
    rw [List.getElem?_take] at hq
    split at hq
    · omega
    · cases hq
  · rw [if_neg hci]
    obtain ⟨s1, s2, s3⟩ := hrd _ u hq2
    rw [add_eq s1]
    exact ⟨rfl, by rw [Nat.add_assoc]; exact s2, fun m hm => by have := s3 m hm; simp only; omega⟩
theorem Valid.slice {x y z : Operand} {t el : TypeId} {e n : Nat} {xs : List Value} {k k' : IntKind} {i j : Int} (ho : o.op = .slice t x (some y) (some z) none) (ht : P.underlying t = some (.slice el)) (hsz : ∀ w, (sizeOf el).run P w = .ok e w) (hx : Reads (ρ x) e n xs) (hy : ρ y = Is (.int k i)) (hz : ρ z = Is (.int k' j))
    (hi : 0 ≤ i ∧ i ≤ j ∧ j ≤ n) : Valid P nid o ρ h ⟨Sl e (j.toNat - i.toNat) ((xs.drop (i.toNat * e)).take ((j.toNat - i.toNat) * e)), [], []⟩ :=
  .quiet _ (nosup rfl) fun σ κ a hops => by
    have h1 := hx σ κ _ (hops x (by rw [ho]; simp [Op.operands]))
    have h2 := hops y (by rw [ho]; simp [Op.operands])
    have h3 := hops z (by rw [ho]; simp [Op.operands])
    rw [hy] at h2; rw [hz] at h3
    have h2 : a.eval y = .int k i := h2
    have h3 : a.eval z = .int k' j := h3
    obtain ⟨hl, ⟨hu, rfl⟩ | ⟨ad, c, hu, hc1, hc2, hrd⟩⟩ := h1
    · have hi0 : i = 0 := by omega
      have hj0 : j = 0 := by omega
      subst hi0 hj0
      refine ⟨.slice none 0 0, ?_, ?_⟩
      · have e1 : (Instr.sliceBound (.int k' 0) 0 .sliceAcap).run P κ.w = .ok 0 κ.w := run_sliceBound k' 0 0 _ (by omega) (by omega) _
        have e2 : (Instr.sliceBound (.int k 0) 0 .sliceB).run P κ.w = .ok 0 κ.w := run_sliceBound k 0 0 _ (by omega) (by omega) _
        unfold execOp
        rw [ho]
        simp [hu, h2, h3, Instr.sliceAt, Instr.slice, Instr.sliceBounds, run_underlying ht, e1, e2, hsz, Result.andThen]
      · exact ⟨by simp, .inl ⟨rfl, rfl⟩⟩
    · have hcut := sl_cut (i := i.toNat) (j := j.toNat) hl hc2 hrd (by omega) (by omega) hc1
      refine ⟨_, ?_, hcut⟩
      have e1 : (Instr.sliceBound (.int k' j) c .sliceAcap).run P κ.w = .ok j.toNat κ.w := run_sliceBound k' j c _ (by omega) (by omega) _
      have e2 : (Instr.sliceBound (.int k i) j.toNat .sliceB).run P κ.w = .ok i.toNat κ.w := run_sliceBound k i j.toNat _ (by omega) (by omega) _
      unfold execOp
      rw [ho]
      simp [hu, h2, h3, Instr.sliceAt, Instr.slice, Instr.sliceBounds, run_underlying ht, e1, e2, hsz, Result.andThen]
      split <;> rfl
theorem Valid.sliceto {x z : Operand} {t el : TypeId} {e n : Nat} {xs : List Value} {k' : IntKind} {j : Int} (ho : o.op = .slice t x none (some z) none) (ht : P.underlying t = some (.slice el)) (hsz : ∀ w, (sizeOf el).run P w = .ok e w) (hx : Reads (ρ x) e n xs) (hz : ρ z = Is (.int k' j))
    (hi : 0 ≤ j ∧ j ≤ n) : Valid P nid o ρ h ⟨Sl e j.toNat (xs.take (j.toNat * e)), [], []⟩ :=
  .quiet _ (nosup rfl) fun σ κ a hops => by
    have h1 := hx σ κ _ (hops x (by rw [ho]; simp [Op.operands]))
    have h3 := hops z (by rw [ho]; simp [Op.operands])
    rw [hz] at h3
    have h3 : a.eval z = .int k' j := h3
    obtain ⟨hl, ⟨hu, rfl⟩ | ⟨ad, c, hu, hc1, hc2, hrd⟩⟩ := h1
    · have hj0 : j = 0 := by omega
      subst hj0
      refine ⟨.slice none 0 0, ?_, ?_⟩
      · have e1 : (Instr.sliceBound (.int k' 0) 0 .sliceAcap).run P κ.w = .ok 0 κ.w := run_sliceBound k' 0 0 _ (by omega) (by omega) _
        unfold execOp
        rw [ho]
        simp [hu, h3, Instr.sliceAt, Instr.slice, Instr.sliceBounds, run_underlying ht, e1, hsz, Result.andThen]
      · exact ⟨by simp, .inl ⟨rfl, rfl⟩⟩
    · have hcut := sl_cut (i := 0) (j := j.toNat) hl hc2 hrd (by omega) (by omega) hc1
      simp only [Nat.zero_mul, List.drop_zero, Nat.sub_zero] at hcut
      refine ⟨_, ?_, hcut⟩
      have e1 : (Instr.sliceBound (.int k' j) c .sliceAcap).run P κ.w = .ok j.toNat κ.w := run_sliceBound k' j c _ (by omega) (by omega) _
      unfold execOp
      rw [ho]
      simp [hu, h3, Instr.sliceAt, Instr.slice, Instr.sliceBounds, run_underlying ht, e1, hsz, Result.andThen]
      split <;> rfl
theorem Valid.slicefrom {x y : Operand} {t el : TypeId} {e n : Nat} {xs : List Value} {k : IntKind} {i : Int} (ho : o.op = .slice t x (some y) none none) (ht : P.underlying t = some (.slice el)) (hsz : ∀ w, (sizeOf el).run P w = .ok e w) (hx : Reads (ρ x) e n xs) (hy : ρ y = Is (.int k i))
    (hi : 0 ≤ i ∧ i ≤ n) : Valid P nid o ρ h ⟨Sl e (n - i.toNat) (xs.drop (i.toNat * e)), [], []⟩ :=
  .quiet _ (nosup rfl) fun σ κ a hops => by
    have h1 := hx σ κ _ (hops x (by rw [ho]; simp [Op.operands]))
    have h2 := hops y (by rw [ho]; simp [Op.operands])
    rw [hy] at h2
    have h2 : a.eval y = .int k i := h2
    obtain ⟨hl, ⟨hu, rfl⟩ | ⟨ad, c, hu, hc1, hc2, hrd⟩⟩ := h1
    · have hi0 : i = 0 := by omega
      subst hi0
      have hxs : xs = [] := List.eq_nil_of_length_eq_zero (by simpa using hl)
      subst hxs
      refine ⟨.slice none 0 0, ?_, ?_⟩
      · have e2 : (Instr.sliceBound (.int k 0) 0 .sliceB).run P κ.w = .ok 0 κ.w := run_sliceBound k 0 0 _ (by omega) (by omega) _
        unfold execOp
        rw [ho]
        simp [hu, h2, Instr.sliceAt, Instr.slice, Instr.sliceBounds, run_underlying ht, e2, hsz, Result.andThen]
      · exact ⟨by simp, .inl ⟨rfl, rfl⟩⟩
    · have hcut := sl_cut (i := i.toNat) (j := n) hl hc2 hrd (by omega) (by omega) hc1
      have e3 : ((xs.drop (i.toNat * e)).take ((n - i.toNat) * e)) = xs.drop (i.toNat * e) := by
        apply List.take_of_length_le
        rw [List.length_drop, hl, Nat.sub_mul]; omega
      rw [e3] at hcut
      refine ⟨_, ?_, hcut⟩
      have e2 : (Instr.sliceBound (.int k i) n .sliceB).run P κ.w = .ok i.toNat κ.w := run_sliceBound k i n _ (by omega) (by omega) _
      unfold execOp
      rw [ho]
      simp [hu, h2, Instr.sliceAt, Instr.slice, Instr.sliceBounds, run_underlying ht, e2, hsz, Result.andThen]
      split <;> rfl
/-- bytes as a string -/
def B (b : UInt8) : Value := .int .u8 (b.toNat : Int)
theorem Valid.tostring {x : Operand} {t st el : TypeId} {n : Nat} {l : List UInt8} (ho : o.op = .convert t st x) (ht : P.underlying t = some (.slice el)) (he : P.underlying el = some (.int .u8)) (hst : P.underlying st = some .string) (hx : Reads (ρ x) 1 n (l.map B)) :
    Valid P nid o ρ h ⟨Is (.string ⟨l.toArray⟩), [], []⟩ :=
  .quiet _ (nosup rfl) fun σ κ a hops => by
    have h1 := hx σ κ _ (hops x (by rw [ho]; simp [Op.operands]))
    refine ⟨.string ⟨l.toArray⟩, ?_, rfl⟩
    have hrun : (convert t st (a.eval x)).run P κ.w = .ok (.string ⟨l.toArray⟩) κ.w := by
      obtain ⟨hl, ⟨hu, rfl⟩ | ⟨ad, c, hu, hc1, hc2, hrd⟩⟩ := h1
      · have hn : l = [] := List.eq_nil_of_length_eq_zero (by simpa using hl)
        subst hn
        rw [hu]
        exact run_convert_bytes_nil κ.w t el ht he 0 0 st hst
      · have hn : n = l.length := by simpa using hl.symm
        subst hn
        rw [hu]
        refine run_convert_bytes_back κ.w t st el ad c l ht he hst (fun j hj => ?_)
        obtain ⟨s1, s2, _⟩ := hrd j (B l[j]) (by simp [hj])
        rw [add_eq s1]; exact s2
    unfold execOp
    rw [ho]
    simp only [Sem.run_bind, hrun, Result.andThen_ok, Sem.run_pure]
theorem Valid.extract {x : Operand} {i : Nat} {l : List AV} (A : AV) (ho : o.op = .extract x i) (hx : ρ x = Tup l) (hi : l[i]? = some A) : Valid P nid o ρ h ⟨A, [], []⟩ :=
  .quiet _ (fun s hs => ⟨x, by rw [ho]; simp [Op.operands], by rw [hx]; exact sup_mem (List.mem_of_getElem? hi) hs⟩) fun σ κ a hops => by
    have h1 := hops x (by rw [ho]; simp [Op.operands])
    rw [hx] at h1
    obtain ⟨us, hu, hall⟩ := h1
    have key : ∀ (l : List AV) (us : List Value) (i : Nat), All2 σ κ l us → l[i]? = some A → ∃ v, us[i]? = some v ∧ A.p σ κ v := by
      intro l
      induction l with
      | nil => intro us i _ h; simp at h
      | cons B l ih =>
        intro us i h1 h2
        cases us with
        | nil => exact h1.elim
        | cons u us =>
          cases i with
          | zero => simp at h2; subst h2; exact ⟨u, rfl, h1.1⟩
          | succ i => simpa using ih us i h1.2 (by simpa using h2)
    obtain ⟨v, hv, hA⟩ := key l us i hall hi
    refine ⟨v, ?_, hA⟩
    unfold execOp
    rw [ho]
    simp only [hu, Instr.extract]
    have : us.toArray[i]? = some v := by simpa using hv
    rw [this]
    rfl
end
end Ab
end Go.Proofs.Ytmilegikgbmjpaa
