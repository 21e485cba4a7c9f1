/-
  OPERATIONS OVER ABSTRACT STATES: those that only compute, and calls.
-/
import Derived.Test.YtmilegikgbmjpaaAb3
import Derived.IntWalk
namespace Go.Proofs.Ytmilegikgbmjpaa
open Go.RowKit
namespace Ab
section
variable {P : Program} {nid : Nat} {o : Oper} {ρ : Operand → AV} {h : Heap}
/-- an operation that only reads -/
theorem Valid.quiet (A : AV) (hs : ∀ s ∈ A.sup, ∃ x ∈ o.op.operands, s ∈ (ρ x).sup)
    (hrun : ∀ σ (κ : Kw) (a : Act), (∀ x ∈ o.op.operands, (ρ x).p σ κ (a.eval x)) → ∃ v, (execOp a.eval o).run P κ.w = .ok (.value v) κ.w ∧ A.p σ κ v) : Valid P nid o ρ h ⟨A, [], []⟩ where
  run := fun base σ κ h' a next Q hops _ hr hb _ _ hk => by
    obtain ⟨v, hv, hA⟩ := hrun σ κ a hops
    unfold Oper.wp
    rw [hv]
    exact hk v σ κ (Kw.le_refl κ) (fun _ _ => ⟨rfl, rfl⟩) (fun _ _ => rfl) hA hr
  sup := fun U hU _ => ⟨fun s hs' => by
    obtain ⟨x, hx, hxs⟩ := hs s hs'
    exact .inl (hU x hx s hxs), fun i c hc => by cases hc⟩
  wr := fun x hx => by cases hx
theorem nosup {A : AV} (hA : A.sup = []) {q : Nat → Prop} : ∀ s ∈ A.sup, q s := fun s hs => by rw [hA] at hs; cases hs
/-- the value hangs on no world: all operands are known -/
theorem Valid.known (v : Value) (hrun : ∀ (ev : Operand → Value) w, (∀ x ∈ o.op.operands, ∀ u, ρ x = Is u → ev x = u) → (execOp ev o).run P w = .ok (.value v) w) : Valid P nid o ρ h ⟨Is v, [], []⟩ :=
  .quiet (Is v) (nosup rfl) fun σ κ a hops => ⟨v, hrun a.eval κ.w (fun x hx u hu => by have := hops x hx; rw [hu] at this; exact this), rfl⟩
theorem Valid.move {x : Operand} (ho : o.op = .move x) : Valid P nid o ρ h ⟨ρ x, [], []⟩ :=
  .quiet _ (fun s hs => ⟨x, by rw [ho]; simp [Op.operands], hs⟩) fun σ κ a hops => ⟨a.eval x, by unfold execOp; rw [ho]; rfl, hops x (by rw [ho]; simp [Op.operands])⟩
theorem Valid.assign {x : Operand} (ho : o.op = .assign x) : Valid P nid o ρ h ⟨ρ x, [], []⟩ :=
  .quiet _ (fun s hs => ⟨x, by rw [ho]; simp [Op.operands], hs⟩) fun σ κ a hops => ⟨a.eval x, by unfold execOp; rw [ho]; rfl, hops x (by rw [ho]; simp [Op.operands])⟩
theorem Valid.bin {op : BinOp} {t t' : TypeId} {x y : Operand} {u v r : Value} (ho : o.op = .binOp op t x y t') (hx : ρ x = Is u) (hy : ρ y = Is v)
    (hg : ∀ w, (eqGuard op t x y u v).run P w = .ok () w) (hr : ∀ w, (binOp op t u v).run P w = .ok r w) : Valid P nid o ρ h ⟨Is r, [], []⟩ :=
  .known r fun ev w hev => by
    have e1 := hev x (by rw [ho]; simp [Op.operands]) u hx
    have e2 := hev y (by rw [ho]; simp [Op.operands]) v hy
    unfold execOp
    rw [ho]
    simp only [Sem.run_bind, e1, e2, hg, hr, Result.andThen_ok, Sem.run_pure]
theorem guard_int (op : BinOp) (t : TypeId) (x y : Operand) (k k' : IntKind) (a b : Int) (w : World) : (eqGuard op t x y (.int k a) (.int k' b)).run P w = .ok () w := by
  unfold eqGuard
  cases op <;> rfl
theorem guard_str (op : BinOp) (t : TypeId) (x y : Operand) (a b : ByteArray) (w : World) : (eqGuard op t x y (.string a) (.string b)).run P w = .ok () w := by
  unfold eqGuard
  cases op <;> rfl
theorem guard_bool (op : BinOp) (t : TypeId) (x y : Operand) (a b : Bool) (w : World) : (eqGuard op t x y (.bool a) (.bool b)).run P w = .ok () w := by
  unfold eqGuard
  cases op <;> rfl
section ints
variable {t t' : TypeId} {x y : Operand} {k : IntKind} {a b : Int}
theorem Valid.addw (ho : o.op = .binOp .add t x y t') (hx : ρ x = Is (.int k a)) (hy : ρ y = Is (.int k b)) : Valid P nid o ρ h ⟨Is (.int k (k.wrap (a + b))), [], []⟩ :=
  .bin ho hx hy (guard_int _ _ _ _ _ _ _ _) (fun w => by simp [binOp, Op.intArith])
theorem Valid.subw (ho : o.op = .binOp .sub t x y t') (hx : ρ x = Is (.int k a)) (hy : ρ y = Is (.int k b)) : Valid P nid o ρ h ⟨Is (.int k (k.wrap (a - b))), [], []⟩ :=
  .bin ho hx hy (guard_int _ _ _ _ _ _ _ _) (fun w => by simp [binOp, Op.intArith])
theorem Valid.mulw (ho : o.op = .binOp .mul t x y t') (hx : ρ x = Is (.int k a)) (hy : ρ y = Is (.int k b)) : Valid P nid o ρ h ⟨Is (.int k (k.wrap (a * b))), [], []⟩ :=
  .bin ho hx hy (guard_int _ _ _ _ _ _ _ _) (fun w => by simp [binOp, Op.intArith])
/-- the kind has room for it -/
def Room (k : IntKind) (a : Int) : Prop := k.wrap a = a
theorem room64 {a : Int} (h1 : -9223372036854775808 ≤ a) (h2 : a ≤ 9223372036854775807) : Room .i64 a := by
  unfold Room
  rw [IntKind.wrap_i64]; omega
theorem Valid.add (ho : o.op = .binOp .add t x y t') (hx : ρ x = Is (.int k a)) (hy : ρ y = Is (.int k b)) (hr : Room k (a + b)) : Valid P nid o ρ h ⟨Is (.int k (a + b)), [], []⟩ := by
  have := Valid.addw (P := P) (nid := nid) (h := h) ho hx hy
  rwa [hr] at this
theorem Valid.sub (ho : o.op = .binOp .sub t x y t') (hx : ρ x = Is (.int k a)) (hy : ρ y = Is (.int k b)) (hr : Room k (a - b)) : Valid P nid o ρ h ⟨Is (.int k (a - b)), [], []⟩ := by
  have := Valid.subw (P := P) (nid := nid) (h := h) ho hx hy
  rwa [hr] at this
theorem Valid.mul (ho : o.op = .binOp .mul t x y t') (hx : ρ x = Is (.int k a)) (hy : ρ y = Is (.int k b)) (hr : Room k (a * b)) : Valid P nid o ρ h ⟨Is (.int k (a * b)), [], []⟩ := by
  have := Valid.mulw (P := P) (nid := nid) (h := h) ho hx hy
  rwa [hr] at this
theorem Valid.lss (ho : o.op = .binOp .lss t x y t') (hx : ρ x = Is (.int k a)) (hy : ρ y = Is (.int k b)) : Valid P nid o ρ h ⟨Is (.bool (decide (a < b))), [], []⟩ :=
  .bin ho hx hy (guard_int _ _ _ _ _ _ _ _) (fun w => by simp [binOp, Op.intCmp])
theorem Valid.leq (ho : o.op = .binOp .leq t x y t') (hx : ρ x = Is (.int k a)) (hy : ρ y = Is (.int k b)) : Valid P nid o ρ h ⟨Is (.bool (decide (a ≤ b))), [], []⟩ :=
  .bin ho hx hy (guard_int _ _ _ _ _ _ _ _) (fun w => by simp [binOp, Op.intCmp])
theorem Valid.gtr (ho : o.op = .binOp .gtr t x y t') (hx : ρ x = Is (.int k a)) (hy : ρ y = Is (.int k b)) : Valid P nid o ρ h ⟨Is (.bool (decide (b < a))), [], []⟩ :=
  .bin ho hx hy (guard_int _ _ _ _ _ _ _ _) (fun w => by simp [binOp, Op.intCmp])
theorem Valid.geq (ho : o.op = .binOp .geq t x y t') (hx : ρ x = Is (.int k a)) (hy : ρ y = Is (.int k b)) : Valid P nid o ρ h ⟨Is (.bool (decide (b ≤ a))), [], []⟩ :=
  .bin ho hx hy (guard_int _ _ _ _ _ _ _ _) (fun w => by simp [binOp, Op.intCmp])
theorem Valid.eql (ho : o.op = .binOp .eql t x y t') (hx : ρ x = Is (.int k a)) (hy : ρ y = Is (.int k b)) : Valid P nid o ρ h ⟨Is (.bool (decide (a = b))), [], []⟩ :=
  .bin ho hx hy (guard_int _ _ _ _ _ _ _ _) (fun w => by simp [binOp, Op.intCmp]; rfl)
theorem Valid.neq (ho : o.op = .binOp .neq t x y t') (hx : ρ x = Is (.int k a)) (hy : ρ y = Is (.int k b)) : Valid P nid o ρ h ⟨Is (.bool (decide (a ≠ b))), [], []⟩ :=
  .bin ho hx hy (guard_int _ _ _ _ _ _ _ _) (fun w => by
    have e : (a != b) = decide (a ≠ b) := by by_cases hab : a = b <;> simp [hab]
    simp [binOp, Op.intCmp, e])
theorem Valid.quo (ho : o.op = .binOp .quo t x y t') (hx : ρ x = Is (.int k a)) (hy : ρ y = Is (.int k b)) (h1 : 0 ≤ a) (h2 : 0 < b) (hr : Room k (a / b)) : Valid P nid o ρ h ⟨Is (.int k (a / b)), [], []⟩ :=
  .bin ho hx hy (guard_int _ _ _ _ _ _ _ _) (fun w => by
    have e : a.tdiv b = a / b := Int.tdiv_eq_ediv_of_nonneg h1
    have hb : b ≠ 0 := by omega
    have hr' : k.wrap (a / b) = a / b := hr
    simp [binOp, Op.intDiv, hb, e, hr'])
theorem Valid.rem (ho : o.op = .binOp .rem t x y t') (hx : ρ x = Is (.int k a)) (hy : ρ y = Is (.int k b)) (h1 : 0 ≤ a) (h2 : 0 < b) : Valid P nid o ρ h ⟨Is (.int k (a % b)), [], []⟩ :=
  .bin ho hx hy (guard_int _ _ _ _ _ _ _ _) (fun w => by
    have e : a.tmod b = a % b := Int.tmod_eq_emod_of_nonneg h1
    have hb : b ≠ 0 := by omega
    simp [binOp, Op.intDiv, hb, e])
theorem Valid.shlw {k' : IntKind} (ho : o.op = .binOp .shl t x y t') (hx : ρ x = Is (.int k a)) (hy : ρ y = Is (.int k' b)) (h1 : 0 ≤ b) : Valid P nid o ρ h ⟨Is (.int k (k.wrap (a * 2 ^ min b.toNat k.bits))), [], []⟩ :=
  .bin ho hx hy (guard_int _ _ _ _ _ _ _ _) (fun w => by
    have hb : ¬ b < 0 := by omega
    simp [binOp, Op.shift, hb])
theorem Valid.shrw {k' : IntKind} (ho : o.op = .binOp .shr t x y t') (hx : ρ x = Is (.int k a)) (hy : ρ y = Is (.int k' b)) (h1 : 0 ≤ b) : Valid P nid o ρ h ⟨Is (.int k (a.fdiv (2 ^ min b.toNat k.bits))), [], []⟩ :=
  .bin ho hx hy (guard_int _ _ _ _ _ _ _ _) (fun w => by
    have hb : ¬ b < 0 := by omega
    simp [binOp, Op.shift, hb])
theorem Valid.bits {op : BinOp} {r : Value} (ho : o.op = .binOp op t x y t') (hx : ρ x = Is (.int k a)) (hy : ρ y = Is (.int k b)) (hr : ∀ w, (binOp op t (.int k a) (.int k b)).run P w = .ok r w) : Valid P nid o ρ h ⟨Is r, [], []⟩ :=
  .bin ho hx hy (guard_int _ _ _ _ _ _ _ _) hr
theorem Valid.neg (ho : o.op = .unOp .neg t x) (hx : ρ x = Is (.int k a)) (hr : Room k (0 - a)) : Valid P nid o ρ h ⟨Is (.int k (0 - a)), [], []⟩ :=
  .known _ fun ev w hev => by
    have e1 := hev x (by rw [ho]; simp [Op.operands]) _ hx
    unfold execOp
    rw [ho]
    have hr' : k.wrap (0 - a) = 0 - a := hr
    simp only [e1, Op.unary, Op.intArith, hr', Sem.run_bind, Sem.run_pure, Result.andThen_ok]
theorem Valid.not {β : Bool} (ho : o.op = .unOp .not t x) (hx : ρ x = Is (.bool β)) : Valid P nid o ρ h ⟨Is (.bool (!β)), [], []⟩ :=
  .known _ fun ev w hev => by
    have e1 := hev x (by rw [ho]; simp [Op.operands]) _ hx
    unfold execOp
    rw [ho]
    simp only [e1, Op.unary, Sem.run_bind, Sem.run_pure, Result.andThen_ok]
theorem Valid.conv {src dst : TypeId} {k' : IntKind} {d : TypeDesc} (ho : o.op = .convert src dst x) (hx : ρ x = Is (.int k a)) (hs : P.underlying src = some d) (hd : P.underlying dst = some (.int k')) : Valid P nid o ρ h ⟨Is (.int k' (k'.wrap a)), [], []⟩ :=
  .known _ fun ev w hev => by
    have e1 := hev x (by rw [ho]; simp [Op.operands]) _ hx
    unfold execOp
    rw [ho]
    simp only [e1, Sem.run_bind, convert, run_underlying hs, run_underlying hd, Result.andThen_ok, Conv.intToInt, Sem.run_pure]
theorem Valid.convr {src dst : TypeId} {k' : IntKind} {d : TypeDesc} (ho : o.op = .convert src dst x) (hx : ρ x = Is (.int k a)) (hs : P.underlying src = some d) (hd : P.underlying dst = some (.int k')) (hr : Room k' a) : Valid P nid o ρ h ⟨Is (.int k' a), [], []⟩ := by
  have := Valid.conv (P := P) (nid := nid) (h := h) ho hx hs hd
  rwa [hr] at this
end ints
section strs
variable {t t' : TypeId} {x y : Operand} {a b : ByteArray}
theorem Valid.cat (ho : o.op = .binOp .add t x y t') (hx : ρ x = Is (.string a)) (hy : ρ y = Is (.string b)) (hr : a.size + b.size ≤ 9223372036854775807) : Valid P nid o ρ h ⟨Is (.string (a ++ b)), [], []⟩ :=
  .bin ho hx hy (guard_str _ _ _ _ _ _) (fun w => by
    have : ¬ ((a.size + b.size : Nat) : Int) > IntKind.i64.max := by have : IntKind.i64.max = 9223372036854775807 := rfl; omega
    simp only [binOp, Op.stringOp]
    rw [if_neg this]
    rfl)
theorem bytes_beq (a b : ByteArray) : (a.toList == b.toList) = decide (a = b) := by
  rw [ByteArray.toList_eq, ByteArray.toList_eq]
  by_cases e : a = b
  · subst e; simp
  · have : ¬ a.data = b.data := fun h => e (by cases a; cases b; simp only at h; subst h; rfl)
    simp [e, this]
theorem Valid.seql (ho : o.op = .binOp .eql t x y t') (hx : ρ x = Is (.string a)) (hy : ρ y = Is (.string b)) : Valid P nid o ρ h ⟨Is (.bool (decide (a = b))), [], []⟩ :=
  .bin ho hx hy (guard_str _ _ _ _ _ _) (fun w => by
    rw [← bytes_beq]
    simp [binOp, Op.stringOp])
theorem Valid.sneq (ho : o.op = .binOp .neq t x y t') (hx : ρ x = Is (.string a)) (hy : ρ y = Is (.string b)) : Valid P nid o ρ h ⟨Is (.bool (decide (a ≠ b))), [], []⟩ :=
  .bin ho hx hy (guard_str _ _ _ _ _ _) (fun w => by
    have : decide (a ≠ b) = !decide (a = b) := by simp
    rw [this, ← bytes_beq]
    simp [binOp, Op.stringOp])
theorem Valid.slss (ho : o.op = .binOp .lss t x y t') (hx : ρ x = Is (.string a)) (hy : ρ y = Is (.string b)) : Valid P nid o ρ h ⟨Is (.bool (Op.bytesLess a.toList b.toList)), [], []⟩ :=
  .bin ho hx hy (guard_str _ _ _ _ _ _) (fun w => by simp [binOp, Op.stringOp])
theorem Valid.sgtr (ho : o.op = .binOp .gtr t x y t') (hx : ρ x = Is (.string a)) (hy : ρ y = Is (.string b)) : Valid P nid o ρ h ⟨Is (.bool (!(Op.bytesLess a.toList b.toList || (a.toList == b.toList)))), [], []⟩ :=
  .bin ho hx hy (guard_str _ _ _ _ _ _) (fun w => by simp [binOp, Op.stringOp])
theorem Valid.beql {u v : Bool} (ho : o.op = .binOp .eql t x y t') (hx : ρ x = Is (.bool u)) (hy : ρ y = Is (.bool v)) (ht : P.underlying t = some .bool) : Valid P nid o ρ h ⟨Is (.bool (u == v)), [], []⟩ :=
  .bin ho hx hy (guard_bool _ _ _ _ _ _) (fun w => by
    have h : ∀ d : Nat, (Op.equalIn (d + 1) t (.bool u) (.bool v)).run P w = .ok (u == v) w := fun d => by simp [Op.equalIn, run_underlying ht]
    simp only [binOp]
    simp [Op.equal, Op.maxDepth, h 9999])
theorem Valid.bneq {u v : Bool} (ho : o.op = .binOp .neq t x y t') (hx : ρ x = Is (.bool u)) (hy : ρ y = Is (.bool v)) (ht : P.underlying t = some .bool) : Valid P nid o ρ h ⟨Is (.bool (!(u == v))), [], []⟩ :=
  .bin ho hx hy (guard_bool _ _ _ _ _ _) (fun w => by
    have h : ∀ d : Nat, (Op.equalIn (d + 1) t (.bool u) (.bool v)).run P w = .ok (u == v) w := fun d => by simp [Op.equalIn, run_underlying ht]
    simp only [binOp]
    simp [Op.equal, Op.maxDepth, h 9999])
end strs
section picks
variable {c x y : Operand} {β : Bool}
/-- 'a && b' -/
theorem Valid.pickand {γ : Bool} (ho : o.op = .pick c x y) (hc : ρ c = Is (.bool β)) {q : Prop} (hx : ρ x = Cnd q (Is (.bool γ))) (hq : β = true → q) (hy : ρ y = Is (.bool false)) : Valid P nid o ρ h ⟨Is (.bool (β && γ)), [], []⟩ :=
  .quiet _ (nosup rfl) fun σ κ a hops => by
    have e1 := hops c (by rw [ho]; simp [Op.operands])
    have e2 := hops x (by rw [ho]; simp [Op.operands])
    have e3 := hops y (by rw [ho]; simp [Op.operands])
    rw [hc] at e1; rw [hx] at e2; rw [hy] at e3
    have e1 : a.eval c = .bool β := e1
    have e3 : a.eval y = .bool false := e3
    refine ⟨.bool (β && γ), ?_, rfl⟩
    unfold execOp
    rw [ho]
    simp only [e1, asBool, Sem.run_bind, Sem.run_pure, Result.andThen_ok]
    cases β with
    | false => simp [e3]
    | true =>
      have e2 : a.eval x = .bool γ := e2.1 (hq rfl)
      simp [e2]
/-- 'a || b' -/
theorem Valid.pickor {γ : Bool} (ho : o.op = .pick c x y) (hc : ρ c = Is (.bool β)) (hx : ρ x = Is (.bool true)) {q : Prop} (hy : ρ y = Cnd q (Is (.bool γ))) (hq : β = false → q) : Valid P nid o ρ h ⟨Is (.bool (β || γ)), [], []⟩ :=
  .quiet _ (nosup rfl) fun σ κ a hops => by
    have e1 := hops c (by rw [ho]; simp [Op.operands])
    have e2 := hops x (by rw [ho]; simp [Op.operands])
    have e3 := hops y (by rw [ho]; simp [Op.operands])
    rw [hc] at e1; rw [hx] at e2; rw [hy] at e3
    have e1 : a.eval c = .bool β := e1
    have e2 : a.eval x = .bool true := e2
    refine ⟨.bool (β || γ), ?_, rfl⟩
    unfold execOp
    rw [ho]
    simp only [e1, asBool, Sem.run_bind, Sem.run_pure, Result.andThen_ok]
    cases β with
    | true => simp [e2]
    | false =>
      have e3 : a.eval y = .bool γ := e3.1 (hq rfl)
      simp [e3]
end picks
/-! ### calls -/
/-- function f, of such arguments, comes to such a value, and turns nothing that was there -/
structure FPure (P : Program) (f : FuncId) (args : List AV) (A : AV) : Prop where
  calls : ∀ (σ : Names) (κ : Kw) (vs : List Value), All2 σ κ args vs → Calls P f vs.toArray κ.w (fun e w' => ∃ v κ', e = .returned v ∧ κ'.w = w' ∧ κ.le κ' ∧ (∀ b, b < κ.w.heap.size → κ'.own b = κ.own b ∧ κ'.w.heap[b]? = κ.w.heap[b]?) ∧ A.p σ κ' v)
  sup : A.sup = []
  ent : ∀ (args : Array Value) (w : World), (callFunc f args).run P w = .ok (.enter f args) w
theorem run_callFunc {f : FuncId} {fn : Func} (hf : P.funcs[f]? = some fn) (hn : (fn.name == "runtime.NumGoroutine") = false) (hb : fn.body.isNone = false) (args : Array Value) (w : World) : (callFunc f args).run P w = .ok (.enter f args) w := by
  have hn' : ¬ fn.name = "runtime.NumGoroutine" := by simpa using hn
  have hb' : ¬ fn.body = none := by intro e; rw [e] at hb; cases hb
  simp [callFunc, hf, hn', hb']
def argsLe (ρ : Operand → AV) : List Operand → List AV → Prop
  | [], [] => True
  | x :: xs, A :: l => (∀ σ κ v, (ρ x).p σ κ v → A.p σ κ v) ∧ argsLe ρ xs l
  | _, _ => False
theorem argsLe.all2 {σ : Names} {κ : Kw} {ev : Operand → Value} : ∀ {xs : List Operand} {l : List AV}, argsLe ρ xs l → (∀ x ∈ xs, (ρ x).p σ κ (ev x)) → All2 σ κ l (xs.map ev)
  | [], [], _, _ => trivial
  | x :: xs, A :: l, ⟨h1, h2⟩, h => ⟨h1 _ _ _ (h x (by simp)), argsLe.all2 h2 fun y hy => h y (by simp [hy])⟩
  | [], _ :: _, h, _ => h.elim
  | _ :: _, [], h, _ => h.elim
theorem HR.grow {base : Nat → Prop} {σ : Names} {κ κ' : Kw} {h : Heap} (hr : HR base σ κ h) (hle : κ.le κ') (hb : ∀ b, b < κ.w.heap.size → κ'.own b = κ.own b ∧ κ'.w.heap[b]? = κ.w.heap[b]?) : HR base σ κ' h where
  at_ := fun i c hc => Chunk.keep hle (fun g hg => by
    obtain ⟨k, hk⟩ := Chunk.own (hr.at_ i c hc) hg
    have := hb g (κ.lt g k hk)
    exact ⟨this.2, this.1⟩) (hr.at_ i c hc)
  far := hr.far
  base := hr.base
theorem Valid.call {f : FuncId} {xs : Array Operand} {ts : Array TypeId} {avs : List AV} {A : AV} (ho : o.op = .call { callee := .value (.func f), args := xs, argTypes := ts })
    (hc : FPure P f avs A) (ha : argsLe ρ xs.toList avs) : Valid P nid o ρ h ⟨A, [], []⟩ where
  run := fun base σ κ h' a next Q hops _ hr hbase _ _ hk => by
    have hops' : ∀ x ∈ xs.toList, (ρ x).p σ κ (a.eval x) := fun x hx => hops x (by rw [ho]; simp [Op.operands, Call.operands]; exact .inr (by simpa using hx))
    have hcalls := hc.calls σ κ _ (argsLe.all2 ha hops')
    unfold Oper.wp execOp
    rw [ho]
    simp only [resolve, Act.eval, Deferred.ofValue, invoke, Sem.run_bind, Sem.run_pure, Result.andThen_ok]
    have e : Array.map a.eval xs = (xs.toList.map a.eval).toArray := by apply Array.ext'; simp
    have e2 : (fun x : Operand => match x with | Operand.tmp t => a.tmps.getD t undef | Operand.const v => v | Operand.global g => Value.pointer (some { block := g, off := 0 }) | Operand.func f => Value.func (Fn.func f) #[] #[]) = a.eval := by
      funext x; cases x <;> rfl
    simp only [e, Array.empty_append, Array.append_empty, hc.ent]
    simp only [Oper.upon]
    refine hcalls.mono ?_
    rintro e w' ⟨v, κ', rfl, rfl, hle, hold, hA⟩
    exact hk v σ κ' hle (fun b hb' => hold b (hbase b hb')) (fun _ _ => rfl) hA (hr.grow hle hold)
  sup := fun U _ _ => ⟨(fun s hs => by have : s ∈ A.sup := hs; rw [hc.sup] at this; cases this), fun i c hc => by cases hc⟩
  wr := fun x hx => by cases hx
end
end Ab
end Go.Proofs.Ytmilegikgbmjpaa
