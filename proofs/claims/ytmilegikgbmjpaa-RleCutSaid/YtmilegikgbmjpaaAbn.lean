/-
  ROWS OF ROWS over abstract states.
-/
import Derived.Test.YtmilegikgbmjpaaAb9
namespace Go.Proofs.Ytmilegikgbmjpaa
open Go.RowKit
namespace Ab
/-! rows of rows -/
def SlS (n : Nat) (X : Nat → List Int) : AV := ⟨fun _ κ u => ∃ vs, SlP κ 1 n vs u ∧ ∀ j x, vs[j]? = some x → SlP κ 1 (X j).length ((X j).map I64) x, [], fun _ h => h, fun hk ⟨vs, h1, h2⟩ => ⟨vs, h1.mono hk, fun j x hj => (h2 j x hj).mono hk⟩⟩
def EltS (l : List Int) : AV := ⟨fun _ κ u => ∃ ad v, u = .pointer (some ad) ∧ Rd κ ad [v] ∧ SlP κ 1 l.length (l.map I64) v, [], fun _ h => h, fun hk ⟨ad, v, h1, h2, h3⟩ => ⟨ad, v, h1, h2.mono hk, h3.mono hk⟩⟩
theorem leq_sls {θ : Nat → Nat} {A B : AV} {n : Nat} {X : Nat → List Int} (h : A = SlS n X) (h' : B = SlS n X) : A.leq θ B := fun σ κ u hu => by subst h h'; exact hu
section
variable {P : Program} {nid : Nat} {o : Oper} {ρ : Operand → AV} {h : Heap}
theorem Valid.lenS {x : Operand} {t : TypeId} {n : Nat} {X : Nat → List Int} {el : TypeId} (ho : o.op = .call { callee := .builtin .len, args := #[x], argTypes := #[t] }) (ht : P.underlying t = some (.slice el)) (hx : ρ x = SlS n X) :
    Valid P nid o ρ h ⟨Is (.int .i64 (n : Int)), [], []⟩ :=
  .quiet _ (nosup rfl) fun σ κ a hops => by
    have h1 := hops x (by rw [ho]; simp [Op.operands, Call.operands])
    rw [hx] at h1
    obtain ⟨vs, h1, _⟩ := h1
    obtain ⟨b, c, hu⟩ := h1.form
    refine ⟨.int .i64 (n : Int), ?_, rfl⟩
    unfold execOp
    rw [ho]
    simp [resolve, invoke, builtin, Builtin.len_, run_underlying ht, hu, goInt, Result.andThen]
theorem Valid.eltS {x y : Operand} {t el : TypeId} {n : Nat} {X : Nat → List Int} {k : IntKind} {i : Int} (ho : o.op = .indexAddr t x y) (ht : P.underlying t = some (.slice el)) (hsz : ∀ w, (sizeOf el).run P w = .ok 1 w) (hx : ρ x = SlS n X) (hy : ρ y = Is (.int k i)) (hi : 0 ≤ i ∧ i < n) :
    Valid P nid o ρ h ⟨EltS (X i.toNat), [], []⟩ :=
  .quiet _ (nosup rfl) fun σ κ a hops => by
    have h1 := hops x (by rw [ho]; simp [Op.operands])
    rw [hx] at h1
    obtain ⟨xs, h1, hall⟩ := h1
    have h2 := hops y (by rw [ho]; simp [Op.operands])
    rw [hy] at h2
    have h2 : a.eval y = .int k i := h2
    obtain ⟨hl, ⟨hu, rfl⟩ | ⟨ad, c, hu, hc1, hc2, hrd⟩⟩ := h1
    · omega
    · have hlt : i.toNat < xs.length := by omega
      refine ⟨.pointer (some (ad.add (i.toNat * 1))), ?_, ad.add (i.toNat * 1), xs[i.toNat], rfl, ?_, hall _ _ (List.getElem?_eq_getElem hlt)⟩
      · unfold execOp
        rw [ho]
        simp [hu, h2, Instr.indexAt, asIntOf, run_underlying ht, hsz, hi.1, hi.2, Result.andThen]
      · intro j u hj
        have hj0 : j = 0 := by
          have := (List.getElem?_eq_some_iff.1 hj).1
          simp at this; exact this
        subst hj0
        have hu' : xs[i.toNat * 1 + 0]? = some u := by
          simp only [List.getElem?_cons_zero, Option.some.injEq] at hj
          rw [Nat.mul_one, Nat.add_zero, List.getElem?_eq_getElem hlt, hj]
        obtain ⟨s1, s2, s3⟩ := hrd _ u hu'
        rw [add_eq s1]
        exact ⟨rfl, by rw [Nat.add_assoc]; exact s2, fun m hm => by have := s3 m hm; simp only; omega⟩
theorem Valid.loadS {x : Operand} {t : TypeId} {l : List Int} (ho : o.op = .load t x) (hag : ∀ w, (isAgg t).run P w = .ok false w) (hx : ρ x = EltS l) : Valid P nid o ρ h ⟨Sl 1 l.length (l.map I64), [], []⟩ :=
  .quiet _ (nosup rfl) fun σ κ a hops => by
    have h1 := hops x (by rw [ho]; simp [Op.operands])
    rw [hx] at h1
    obtain ⟨ad, v, hu, hrd, hv⟩ := h1
    obtain ⟨s1, s2, _⟩ := hrd 0 v rfl
    refine ⟨v, ?_, hv⟩
    have e : (⟨ad.block, ad.off + 0, none⟩ : Addr) = ad := by cases ad; simp at s1; simp [s1]
    rw [e] at s2
    unfold execOp
    rw [ho]
    simp only [hu, Instr.loadAt, Instr.sureAddr, Sem.run_bind, Sem.run_pure, Result.andThen_ok, loadVar, hag]
    simp [s2, Result.andThen]
theorem Valid.litS3 {t el : TypeId} {x y z : Operand} {n0 n1 n2 : Nat} {xs0 xs1 xs2 : List Value} (X : Nat → List Int) (ho : o.op = .buildSlice t 3 #[(0, x), (1, y), (2, z)])
    (hx : Reads (ρ x) 1 n0 xs0) (hy : Reads (ρ y) 1 n1 xs1) (hz : Reads (ρ z) 1 n2 xs2) (e0 : n0 = (X 0).length) (e0' : xs0 = (X 0).map I64) (e1 : n1 = (X 1).length) (e1' : xs1 = (X 1).map I64) (e2 : n2 = (X 2).length) (e2' : xs2 = (X 2).map I64)
    (hrun : ∀ (a b c : Option Addr) (n1 n2 n3 c1 c2 c3 : Nat) (w : World), (Instr.buildSlice t 3 #[(0, .slice a n1 c1), (1, .slice b n2 c2), (2, .slice c n3 c3)]).run P w = .ok (.slice (some ⟨w.heap.size, 0, none⟩) 3 3) (w.alloc (.cells #[.slice a n1 c1, .slice b n2 c2, .slice c n3 c3] el))) :
    Valid P nid o ρ h ⟨SlS 3 X, [], []⟩ :=
  .fresh _ rfl fun σ κ a hops => by
    subst e0 e0' e1 e1' e2 e2'
    have h0 := hx σ κ _ (hops x (by rw [ho]; simp [Op.operands]))
    have h1 := hy σ κ _ (hops y (by rw [ho]; simp [Op.operands]))
    have h2 := hz σ κ _ (hops z (by rw [ho]; simp [Op.operands]))
    obtain ⟨b0, c0, u0⟩ := h0.form
    obtain ⟨b1, c1, u1⟩ := h1.form
    obtain ⟨b2, c2, u2⟩ := h2.form
    have hr := hrun b0 b1 b2 (X 0).length (X 1).length (X 2).length c0 c1 c2 κ.w
    rw [← u0, ← u1, ← u2] at hr
    let cs : List Value := [a.eval x, a.eval y, a.eval z]
    refine ⟨_, κ.new (.cells cs.toArray el) none, ?_, κ.new_le _ _, fun b hb => κ.new_old _ _ b hb, cs, ⟨rfl, .inr ⟨⟨κ.w.heap.size, 0, none⟩, 3, rfl, Nat.le_refl _, by decide, rd_new κ cs el⟩⟩, fun j v hj => ?_⟩
    · unfold execOp
      rw [ho]
      have : (#[((0 : Nat), x), (1, y), (2, z)].map fun q => (q.1, a.eval q.2)) = #[(0, a.eval x), (1, a.eval y), (2, a.eval z)] := by simp
      simp only [this, hr, Sem.run_bind, Result.andThen_ok, Sem.run_pure]
      rfl
    · have hle := κ.new_le (.cells cs.toArray el) none
      have hlt : j < 3 := (List.getElem?_eq_some_iff.1 hj).1
      match j, hlt, hj with
      | 0, _, hj => cases hj; exact h0.mono hle
      | 1, _, hj => cases hj; exact h1.mono hle
      | 2, _, hj => cases hj; exact h2.mono hle
end
end Ab
end Go.Proofs.Ytmilegikgbmjpaa
