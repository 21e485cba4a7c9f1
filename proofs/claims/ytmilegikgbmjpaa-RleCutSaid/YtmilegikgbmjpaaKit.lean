/-
  SMALL THINGS FOR ALL WALKS OF THIS SEAT: a slice that reads as a list ('Sl'), append of whatever slice, bytes of a string, 'Below' at a row.
-/
import Derived.WalkKit
import Derived.WalkSpells
import Derived.WalkLawsBesides
import Derived.Lib.Hide
import Derived.BigQuiet
import Derived.StillTailTactics
import Derived.Laws.AppendOwnNone
namespace Go.Proofs.Ytmilegikgbmjpaa
open Go.RowKit
namespace Kit

/-- slice value v of n elements of 'size' cells each reads as the cells xs in w -/
def Sl (w : World) (size : Nat) (v : Value) (n : Nat) (xs : List Value) : Prop :=
  xs.length = n * size ∧ ((v = .slice none 0 0 ∧ n = 0) ∨
    ∃ (a : Addr) (c : Nat), v = .slice (some a) n c ∧ n ≤ c ∧ c ≤ maxLen ∧ ∀ (j : Nat) (u : Value), xs[j]? = some u → a.spot = none ∧ w.cell? ⟨a.block, a.off + j, none⟩ = some u)

theorem Sl.nil (w : World) (size : Nat) : Sl w size (.slice none 0 0) 0 [] := ⟨by simp, .inl ⟨rfl, rfl⟩⟩

theorem lt_of_cell {w : World} {b off : Nat} {sp : Option Nat} {u : Value} (h : w.cell? ⟨b, off, sp⟩ = some u) : b < w.heap.size := by
  simp only [World.cell?] at h
  cases hb : w.heap[b]? with
  | none => simp [hb] at h
  | some o => exact (Array.getElem?_eq_some_iff.1 hb).1

theorem Sl.below {w w' : World} {size : Nat} {v : Value} {n : Nat} {xs : List Value} (h : Sl w size v n xs) (hb : Below w.heap.size w w') : Sl w' size v n xs := by
  obtain ⟨hl, h | ⟨a, c, rfl, h1, h2, hc⟩⟩ := h
  · exact ⟨hl, .inl h⟩
  · refine ⟨hl, .inr ⟨a, c, rfl, h1, h2, fun j u hj => ?_⟩⟩
    obtain ⟨s1, s2⟩ := hc j u hj
    exact ⟨s1, by rw [hb.cell (p := ⟨a.block, a.off + j, none⟩) (lt_of_cell s2)]; exact s2⟩

theorem Sl.len {w : World} {size : Nat} {v : Value} {n : Nat} {xs : List Value} (h : Sl w size v n xs) : n ≤ maxLen := by
  obtain ⟨_, ⟨_, h⟩ | ⟨a, c, _, h1, h2, _⟩⟩ := h
  · subst h; unfold maxLen; omega
  · omega

/-- what is owned reads -/
theorem Sl.own {w : World} {base : Nat} {e : TypeId} {size : Nat} {v : Value} {n : Nat} {xs : List Value} (h : w.ownsRow base e size v n xs) : Sl w size v n xs := by
  obtain ⟨hl, ⟨rfl, rfl⟩ | ⟨g, cap, cur, rfl, hb, hg, h1, h2, hs, hx⟩⟩ := h
  · exact ⟨hl, .inl ⟨rfl, rfl⟩⟩
  · refine ⟨hl, .inr ⟨_, cap, rfl, h1, h2, fun j u hj => ⟨rfl, ?_⟩⟩⟩
    simp only [World.cell?, hg, Nat.zero_add]
    subst hx
    rw [List.getElem?_take] at hj
    split at hj
    · simpa using hj
    · cases hj

/-- its first ones -/
theorem Sl.take {w : World} {size : Nat} {a : Addr} {n c : Nat} {xs : List Value} (h : Sl w size (.slice (some a) n c) n xs) (m : Nat) (hm : m ≤ n) : Sl w size (.slice (some a) m c) m (xs.take (m * size)) := by
  obtain ⟨hl, ⟨h, _⟩ | ⟨a', c', h, h1, h2, hc⟩⟩ := h
  · cases h
  · cases h
    refine ⟨by rw [List.length_take, hl]; exact Nat.min_eq_left (Nat.mul_le_mul_right _ hm), .inr ⟨a, c, rfl, by omega, h2, fun j u hj => hc j u ?_⟩⟩
    rw [List.getElem?_take] at hj
    split at hj
    · exact hj
    · cases hj

/-- a slice literal, just laid -/
theorem Sl.lit (w : World) (cs : Array Value) (t : TypeId) (size n : Nat) (hs : cs.size = n * size) (hm : n ≤ maxLen) :
    Sl (w.alloc (.cells cs t)) size (.slice (some ⟨w.heap.size, 0, none⟩) n n) n cs.toList := by
  refine ⟨by simpa using hs, .inr ⟨_, n, rfl, Nat.le_refl _, hm, fun j u hj => ⟨rfl, ?_⟩⟩⟩
  have : (w.alloc (.cells cs t)).heap[w.heap.size]? = some (.cells cs t (0, 0)) := heap_alloc_new _ _
  simp only [World.cell?, this, Nat.zero_add]
  simpa using hj

/-- append of whatever slice to a slice that is nil or the call's own -/
theorem wpList_append_any {P : Program} {w : World} {ops : Array Oper} {rest : List Oper} {o : Oper} {a : Act} {Q : Exit → Act → World → Prop} (hgd : o.guard = none) (s x : Operand) (t : TypeId)
    (ho : o.op = .call { callee := .builtin .append, args := #[s, x], argTypes := #[t, t] })
    (base : Nat) (e : TypeId) (i : TypeInfo) (z : Value) (size bytes : Nat) (ht : P.underlying t = some (.slice e)) (hi : P.info? e = some i) (hz : i.zero = some z)
    (hsize : i.size = size) (hby : i.bytes = bytes) (hzs : z.cells.size = size) (hsz : 0 < size)
    (v : Value) (n : Nat) (xs : List Value) (hs : a.eval s = v) (hown : w.ownsRow base e size v n xs)
    (sv : Value) (m : Nat) (news : List Value) (hx : a.eval x = sv) (hsl : Sl w size sv m news) (h1 : ∀ u ∈ news, u.oneCell' = true)
    (h63 : n + m ≤ maxLen) (hbytes : (n + m) * bytes ≤ 140737488355328) (hbase : base ≤ w.heap.size)
    (h : ∀ v' w', w'.ownsRow base e size v' (n + m) (xs ++ news) → w.grownBy w' v.ownBlock → wpList P ops Q rest (a.put o.dst v') w') : wpList P ops Q (o :: rest) a w := by
  obtain ⟨hl, ⟨rfl, rfl⟩ | ⟨ad, c, rfl, hc1, hc2, hc⟩⟩ := hsl
  · have hn : news = [] := List.eq_nil_of_length_eq_zero (by simpa using hl)
    subst hn
    refine wpList_append_own_none hgd s x t ho base e i size ht hi v n xs hs hown hx (h v w (by simpa using hown) (World.grownBy.refl w _))
  · refine wpList_append_own w hgd s x t ho base e i z size bytes ht hi hz hsize hby hzs hsz v n xs hs hown ad m c news hx hl (fun j u hj => ?_) h1 h63 hbytes hbase (fun v' w' h2 h3 _ => h v' w' h2 h3)
    obtain ⟨s1, s2⟩ := hc j u hj
    have e : ad.add j = ⟨ad.block, ad.off + j, none⟩ := by
      unfold Addr.add
      split
      · rename_i h0; subst h0; cases ad; simp at s1; simp [s1]
      · rfl
    rw [e]; exact s2

/-- an operation whose guard says yes is as one without a guard -/
theorem wpList_want {P : Program} {w : World} {ops : Array Oper} {rest : List Oper} {o : Oper} {a : Act} {Q : Exit → Act → World → Prop} (hw : Region.wanted o (yielded ops a.tmps) = true)
    (h : wpList P ops Q ({ o with guard := none } :: rest) a w) : wpList P ops Q (o :: rest) a w := by
  simp only [wpList] at h ⊢
  rw [if_pos hw]
  rw [if_pos (by rfl)] at h
  exact h

/-- a byte's cell -/
def B (b : UInt8) : Value := .int .u8 (b.toNat : Int)

theorem run_to_string {P : Program} {w : World} (t st e : TypeId) (ht : P.underlying t = some (.slice e)) (he : P.underlying e = some (.int .u8)) (hst : P.underlying st = some .string)
    (sv : Value) (n : Nat) (l : List UInt8) (hsl : Sl w 1 sv n (l.map B)) : (convert t st sv).run P w = .ok (.string ⟨l.toArray⟩) w := by
  obtain ⟨hl, ⟨rfl, rfl⟩ | ⟨ad, c, rfl, h1, h2, hc⟩⟩ := hsl
  · have hn : l = [] := List.eq_nil_of_length_eq_zero (by simpa using hl)
    subst hn
    exact run_convert_bytes_nil w t e ht he 0 0 st hst
  · have hn : n = l.length := by simpa using hl.symm
    subst hn
    refine run_convert_bytes_back w t st e ad c l ht he hst (fun j hj => ?_)
    have hg : (l.map B)[j]? = some (B l[j]) := by simp [hj]
    obtain ⟨s1, s2⟩ := hc j _ hg
    have e1 : ad.add j = ⟨ad.block, ad.off + j, none⟩ := by
      unfold Addr.add
      split
      · rename_i h0; subst h0; cases ad; simp at s1; simp [s1]
      · rfl
    rw [e1]; exact s2

/-- 'string(b)' -/
theorem wpList_to_string {P : Program} {w : World} {ops : Array Oper} {rest : List Oper} {o : Oper} {a : Act} {Q : Exit → Act → World → Prop} (hgd : o.guard = none) (t st e : TypeId) (x : Operand)
    (ho : o.op = .convert t st x) (ht : P.underlying t = some (.slice e)) (he : P.underlying e = some (.int .u8)) (hst : P.underlying st = some .string)
    (sv : Value) (n : Nat) (l : List UInt8) (hx : a.eval x = sv) (hsl : Sl w 1 sv n (l.map B))
    (h : wpList P ops Q rest (a.put o.dst (.string ⟨l.toArray⟩)) w) : wpList P ops Q (o :: rest) a w := by
  refine wpList_plain hgd fun K hK => ?_
  have hrun := run_to_string t st e ht he hst sv n l hsl
  unfold Oper.wp
  simp [execOp, ho, hx, hrun, Result.andThen]
  exact hK _ _ h

/-- 'min' of two ints, as a number of its own -/
theorem wpList_min {P : Program} {w : World} {ops : Array Oper} {rest : List Oper} {o : Oper} {a : Act} {Q : Exit → Act → World → Prop} (hgd : o.guard = none) (x y : Operand) (t : TypeId)
    (ho : o.op = .call { callee := .builtin .min, args := #[x, y], argTypes := #[t, t] }) (n k : Nat) (hx : a.eval x = .int .i64 (n : Int)) (hy : a.eval y = .int .i64 (k : Int))
    (h : ∀ m : Nat, m ≤ n → m ≤ k → n ≤ m ∨ k ≤ m → wpList P ops Q rest (a.put o.dst (.int .i64 (m : Int))) w) : wpList P ops Q (o :: rest) a w := by
  refine wpList_plain hgd fun K hK => ?_
  have e : (if k < n then (k : Int) else (n : Int)) = ((min n k : Nat) : Int) := by
    split <;> omega
  unfold Oper.wp
  simp [execOp, ho, resolve, invoke, builtin, hx, hy, Builtin.min_, Builtin.min2]
  rw [e]
  exact hK _ _ (h (min n k) (by omega) (by omega) (by omega))

theorem frozen_out {w : World} {b j lo hi : Nat} {C : Array Value} {e : TypeId} (h : w.heap[b]? = some (.cells C e (lo, hi))) (hj : j < lo) : w.frozen? ⟨b, j, none⟩ = false := by
  simp [World.frozen?, h]; omega

/-- '[]byte(s)': new memory that reads as s, and may be written -/
theorem wpList_to_bytes {P : Program} {w : World} {ops : Array Oper} {rest : List Oper} {o : Oper} {a : Act} {Q : Exit → Act → World → Prop} (hgd : o.guard = none) (st t e : TypeId) (x : Operand)
    (ho : o.op = .convert st t x) (ht : P.underlying t = some (.slice e)) (he : P.underlying e = some (.int .u8)) (hst : P.underlying st = some .string)
    (s : ByteArray) (hx : a.eval x = .string s) (hs : s.size ≤ maxLen)
    (h : ∀ (b cap : Nat) (w' : World), w.heap.size ≤ b → s.size ≤ cap → cap ≤ maxLen → Below w.heap.size w w' → (∀ j u, (s.data.toList.map B)[j]? = some u → w'.cell? ⟨b, j, none⟩ = some u ∧ w'.frozen? ⟨b, j, none⟩ = false) →
      wpList P ops Q rest (a.put o.dst (.slice (some ⟨b, 0, none⟩) s.size cap)) w') : wpList P ops Q (o :: rest) a w := by
  refine wpList_plain hgd fun K hK => ?_
  have hrun := run_bytes_of_string (P := P) w st t e s hst ht he
  have hge := grownCap_ge w s.size 0 e
  have hsz : (bytesRow s (grownCap w s.size 0 e)).size = grownCap w s.size 0 e := by
    simp only [bytesRow, Array.size_append, Array.size_map, Array.size_replicate]
    have : s.data.size = s.size := rfl
    omega
  have hnew : (w.drew.alloc (.cells (bytesRow s (grownCap w s.size 0 e)) e ((bytesRow s (grownCap w s.size 0 e)).size, (bytesRow s (grownCap w s.size 0 e)).size + 1))).heap[w.heap.size]? = some (.cells (bytesRow s (grownCap w s.size 0 e)) e ((bytesRow s (grownCap w s.size 0 e)).size, (bytesRow s (grownCap w s.size 0 e)).size + 1)) := by
    have := heap_alloc_new w.drew (.cells (bytesRow s (grownCap w s.size 0 e)) e ((bytesRow s (grownCap w s.size 0 e)).size, (bytesRow s (grownCap w s.size 0 e)).size + 1))
    exact this
  unfold Oper.wp
  simp [execOp, ho, hx, hrun, Result.andThen]
  refine hK _ _ (h _ _ _ (Nat.le_refl _) hge (grownCap_le_maxLen w s.size 0 e hs) ?_ ?_)
  · exact ((Below.refl w.heap.size w).drew.alloc (Nat.le_refl _) _)
  · intro j u hj
    have hjs : j < s.data.toList.length := by
      have := (List.getElem?_eq_some_iff.1 hj).1
      simpa using this
    have hjs' : j < s.data.size := by simpa using hjs
    constructor
    · simp only [World.cell?, hnew]
      rw [if_neg (by simp)]
      rw [← hj]
      simp only [bytesRow]
      rw [Array.getElem?_append_left (by simpa using hjs')]
      simp []; rfl
    · have e1 : s.data.size = s.size := rfl
      exact frozen_out hnew (by omega)

theorem own_pos {w : World} {base : Nat} {e : TypeId} {size : Nat} {v : Value} {n : Nat} {xs : List Value} (h : w.ownsRow base e size v n xs) (hn : 1 ≤ n) :
    ∃ g cap, v = .slice (some ⟨g, 0, none⟩) n cap ∧ base ≤ g ∧ n ≤ cap ∧ cap ≤ maxLen := by
  obtain ⟨hl, ⟨_, rfl⟩ | ⟨g, cap, cur, rfl, hb, hg, h1, h2, hs, hx⟩⟩ := h
  · omega
  · exact ⟨g, cap, rfl, hb, h1, h2⟩

theorem le_alloc {B : Nat} {w : World} (h : B ≤ w.heap.size) (o : Obj) : B ≤ (w.alloc o).heap.size := by simp; omega

theorem below_setRow {B : Nat} {a w : World} (h : Below B a w) {g : Nat} (hg : B ≤ g) (cs : Array Value) : Below B a (w.setRow g cs) := by
  refine h.trans ⟨rfl, rfl, rfl, by simp, fun k hk => ?_⟩
  simp only [World.setRow, Array.getElem?_modify]
  rw [if_neg (by omega)]

theorem take_snoc (s : ByteArray) (k : Nat) (h : k < s.size) : s.data.toList.take (k + 1) = s.data.toList.take k ++ [s[k]] := by
  rw [List.take_succ_eq_append_getElem (by simpa using h)]; rfl
theorem take_all (s : ByteArray) : s.data.toList.take s.size = s.data.toList := List.take_of_length_le (by simp)

/-! REGIONS THAT DRAW THEIR ORDER AND HOLD CALLS THAT MAKE MEMORY: the class of all worlds that are as W was below B. -/
theorem callFunc_enter {P : Program} {f : FuncId} {fn : Func} (hf : P.funcs[f]? = some fn) (hn : (fn.name == "runtime.NumGoroutine") = false) (hb : fn.body.isSome = true) (args : Array Value) (w : World) :
    (callFunc f args).run P w = .ok (.enter f args) w := by
  have h1 : fn.name ≠ "runtime.NumGoroutine" := by simpa using hn
  obtain ⟨b, h2⟩ := Option.isSome_iff_exists.1 hb
  simp [callFunc, hf, h1, h2]

/-- the class of all worlds that are as W was, below W's size -/
def In (W w' : World) : Prop := Below W.heap.size W w'
theorem In.go {W w w' : World} (h : In W w) (hb : Below w.heap.size w w') : In W w' := Below.trans h (hb.mono (Below.size h))
theorem In.sl {W w : World} (h : In W w) {size : Nat} {v : Value} {n : Nat} {xs : List Value} (hs : Sl W size v n xs) : Sl w size v n xs := hs.below h
theorem region_in {P : Program} {id : Nat} {Q : Exit → Act → World → Prop} {a : Act} {w : World} {l : List Oper} (hm : P.follows .mixedOrders = true) (hB : Region.lexB .any l.toArray = true)
    (h : wpQuiet P l.toArray (In w) (fun a' => ∀ w', In w w' → Q .normal a' w') l a) : (Code.region id l.toArray true).wp P Q a w :=
  wp_region_quiet (C := In w) hm hB (Below.refl _ _).drew (by simpa using h)

theorem region_class {P : Program} {C : World → Prop} {id : Nat} {Q : Exit → Act → World → Prop} {a : Act} {w : World} {l : List Oper} (hC : C w.drew) (hm : P.follows .mixedOrders = true) (hB : Region.lexB .any l.toArray = true)
    (h : wpQuiet P l.toArray C (fun a' => ∀ w', C w' → Q .normal a' w') l a) : (Code.region id l.toArray true).wp P Q a w :=
  wp_region_quiet (C := C) hm hB hC (by simpa using h)

theorem quiet_call {P : Program} {C : World → Prop} {o : Oper} {a : Act} {K : Act → Prop} (f : FuncId) (xs : Array Operand) (ats : Array TypeId) (ho : o.op = .call { callee := .value (.func f), args := xs, argTypes := ats }) {fn : Func}
    (hf : P.funcs[f]? = some fn) (hn : (fn.name == "runtime.NumGoroutine") = false) (hb : fn.body.isSome = true) (args : Array Value) (hargs : #[] ++ xs.map a.eval ++ #[] = args) (v : Value)
    (h : ∀ w, C w → Calls P f args w fun e w' => e = .returned v ∧ C w') (hk : K (a.put o.dst v)) : o.quiet P a C K := by
  refine ⟨v, fun w hw => ?_, hk⟩
  unfold Oper.quietAt
  have e : execOp a.eval o = callFunc f args := by
    obtain ⟨dst, op, ty, pos, after, guard⟩ := o
    simp only at ho
    subst ho hargs
    rfl
  rw [e, callFunc_enter hf hn hb]
  exact ⟨rfl, h w hw⟩

theorem quiet_to_string {P : Program} {C : World → Prop} {o : Oper} {a : Act} {K : Act → Prop} (t st e : TypeId) (x : Operand)
    (ho : o.op = .convert t st x) (ht : P.underlying t = some (.slice e)) (he : P.underlying e = some (.int .u8)) (hst : P.underlying st = some .string)
    (sv : Value) (n : Nat) (l : List UInt8) (hx : a.eval x = sv) (hsl : ∀ w, C w → Sl w 1 sv n (l.map B)) (hk : K (a.put o.dst (.string ⟨l.toArray⟩))) : o.quiet P a C K := by
  refine ⟨_, fun w hw => ?_, hk⟩
  have hrun := run_to_string t st e ht he hst sv n l (hsl w hw)
  unfold Oper.quietAt
  simp [execOp, ho, hx, hrun, Result.andThen, Oper.quietUpon]

/-- nothing but draws -/
def Dr (w w' : World) : Prop := ∃ n, w' = w.drewN n
theorem Dr.refl (w : World) : Dr w w := ⟨0, rfl⟩
theorem Dr.drew {w w' : World} (h : Dr w w') : Dr w w'.drew := by
  obtain ⟨n, rfl⟩ := h
  exact ⟨n + 1, rfl⟩
theorem Dr.trans {a b c : World} (h : Dr a b) (k : Dr b c) : Dr a c := by
  obtain ⟨n, rfl⟩ := h
  obtain ⟨m, rfl⟩ := k
  exact ⟨n + m, by rw [World.drewN_drewN]⟩
theorem Dr.below {w w' : World} (h : Dr w w') (B : Nat) : Below B w w' := by
  obtain ⟨n, rfl⟩ := h
  exact ⟨rfl, rfl, rfl, Nat.le_refl _, fun _ _ => rfl⟩
theorem Dr.heap {w w' : World} (h : Dr w w') : w'.heap = w.heap := by
  obtain ⟨n, rfl⟩ := h; rfl

/-- a callee's contract in a region's quiet walk -/
theorem q_same {P : Program} {f : FuncId} {args : Array Value} {w : World} {n : Nat} {v : Value}
    (h : Calls P f args (w.drewN n) fun e w' => e = .returned v ∧ w.drewN n = w') : Calls P f args (w.drewN n) fun e w'' => e = .returned v ∧ ∃ m, w'' = w.drewN m :=
  h.mono fun _ _ ⟨he, hm⟩ => ⟨he, n, hm.symm⟩
theorem q_dr {P : Program} {f : FuncId} {args : Array Value} {w : World} {n : Nat} {v : Value}
    (h : Calls P f args (w.drewN n) fun e w' => e = .returned v ∧ Dr (w.drewN n) w') : Calls P f args (w.drewN n) fun e w'' => e = .returned v ∧ ∃ m, w'' = w.drewN m :=
  h.mono fun _ _ ⟨he, hm⟩ => ⟨he, Dr.trans ⟨n, rfl⟩ hm⟩

theorem ret_bool {a b : Bool} (h : a = b) : Ending.returned (.bool a) = .returned (.bool b) := by rw [h]
theorem ret_int {k : IntKind} {a b : Int} (h : a = b) : Ending.returned (.int k a) = .returned (.int k b) := by rw [h]

end Kit
end Go.Proofs.Ytmilegikgbmjpaa
