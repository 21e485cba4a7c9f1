/-
  The framework of these walks, several texts in one.
-/
import Derived.WalkKit
import Derived.WalkSpells
import Derived.WalkLawsBesides
import Derived.Lib.Hide
import Derived.BigQuiet
import Derived.StillTailTactics
import Derived.Laws.AppendOwnNone
import Derived.Test.YtdcenocljnlipaaRows
import Derived.ProofKit
import Derived.OpenShut
import Derived.ShutString
import Derived.ChangeOld
import Derived.Below
import Derived.Lib.SmallJoins
import Derived.Laws.AppendOwn
import Derived.Orders
import Derived.OrdersIn
import Derived.RangeFuncLeaves
import Derived.RangeFuncSeq
import Derived.Scope
import Derived.ScopeJumps
import Derived.IntWalk
import Derived.Maps.AppendAt
import Derived.Laws.BytesString
import Derived.Laws.Rows
import Derived.Laws.Cells
import Derived.Tactics
namespace Go.Proofs.Ytdcenocljnlipaa
open Go.RowKit
namespace Kit

/-- slice value v of n elements of 'size' cells each reads as the cells xs in w -/
def Sl (w : World) (size : Nat) (v : Value) (n : Nat) (xs : List Value) : Prop :=
  xs.length = n * size ∧ ((v = .slice none 0 0 ∧ n = 0) ∨
    ∃ (a : Addr) (c : Nat), v = .slice (some a) n c ∧ n ≤ c ∧ c ≤ maxLen ∧ ∀ (j : Nat) (u : Value), xs[j]? = some u → a.spot = none ∧ w.cell? ⟨a.block, a.off + j, none⟩ = some u)

theorem Sl.nil (w : World) (size : Nat) : Sl w size (.slice none 0 0) 0 [] := ⟨by simp, .inl ⟨rfl, rfl⟩⟩

theorem lt_of_cell {w : World} {b off : Nat} {sp : Option Nat} {u : Value} (h : w.cell? ⟨b, off, sp⟩ = some u) : b < w.heap.size := by
  simp only [World.cell?] at h
  cases hb : w.heap[b]? with
  | none => simp [hb] at h
  | some o => exact (Array.getElem?_eq_some_iff.1 hb).1

theorem Sl.below {w w' : World} {size : Nat} {v : Value} {n : Nat} {xs : List Value} (h : Sl w size v n xs) (hb : Below w.heap.size w w') : Sl w' size v n xs := by
  obtain ⟨hl, h | ⟨a, c, rfl, h1, h2, hc⟩⟩ := h
  · exact ⟨hl, .inl h⟩
  · refine ⟨hl, .inr ⟨a, c, rfl, h1, h2, fun j u hj => ?_⟩⟩
    obtain ⟨s1, s2⟩ := hc j u hj
    exact ⟨s1, by rw [hb.cell (p := ⟨a.block, a.off + j, none⟩) (lt_of_cell s2)]; exact s2⟩

theorem Sl.len {w : World} {size : Nat} {v : Value} {n : Nat} {xs : List Value} (h : Sl w size v n xs) : n ≤ maxLen := by
  obtain ⟨_, ⟨_, h⟩ | ⟨a, c, _, h1, h2, _⟩⟩ := h
  · subst h; unfold maxLen; omega
  · omega

/-- what is owned reads -/
theorem Sl.own {w : World} {base : Nat} {e : TypeId} {size : Nat} {v : Value} {n : Nat} {xs : List Value} (h : w.ownsRow base e size v n xs) : Sl w size v n xs := by
  obtain ⟨hl, ⟨rfl, rfl⟩ | ⟨g, cap, cur, rfl, hb, hg, h1, h2, hs, hx⟩⟩ := h
  · exact ⟨hl, .inl ⟨rfl, rfl⟩⟩
  · refine ⟨hl, .inr ⟨_, cap, rfl, h1, h2, fun j u hj => ⟨rfl, ?_⟩⟩⟩
    simp only [World.cell?, hg, Nat.zero_add]
    subst hx
    rw [List.getElem?_take] at hj
    split at hj
    · simpa using hj
    · cases hj

/-- its first ones -/
theorem Sl.take {w : World} {size : Nat} {a : Addr} {n c : Nat} {xs : List Value} (h : Sl w size (.slice (some a) n c) n xs) (m : Nat) (hm : m ≤ n) : Sl w size (.slice (some a) m c) m (xs.take (m * size)) := by
  obtain ⟨hl, ⟨h, _⟩ | ⟨a', c', h, h1, h2, hc⟩⟩ := h
  · cases h
  · cases h
    refine ⟨by rw [List.length_take, hl]; exact Nat.min_eq_left (Nat.mul_le_mul_right _ hm), .inr ⟨a, c, rfl, by omega, h2, fun j u hj => hc j u ?_⟩⟩
    rw [List.getElem?_take] at hj
    split at hj
    · exact hj
    · cases hj

/-- a slice literal, just laid -/
theorem Sl.lit (w : World) (cs : Array Value) (t : TypeId) (size n : Nat) (hs : cs.size = n * size) (hm : n ≤ maxLen) :
    Sl (w.alloc (.cells cs t)) size (.slice (some ⟨w.heap.size, 0, none⟩) n n) n cs.toList := by
  refine ⟨by simpa using hs, .inr ⟨_, n, rfl, Nat.le_refl _, hm, fun j u hj => ⟨rfl, ?_⟩⟩⟩
  have : (w.alloc (.cells cs t)).heap[w.heap.size]? = some (.cells cs t (0, 0)) := heap_alloc_new _ _
  simp only [World.cell?, this, Nat.zero_add]
  simpa using hj

/-- append of whatever slice to a slice that is nil or the call's own -/
theorem wpList_append_any {P : Program} {w : World} {ops : Array Oper} {rest : List Oper} {o : Oper} {a : Act} {Q : Exit → Act → World → Prop} (hgd : o.guard = none) (s x : Operand) (t : TypeId)
    (ho : o.op = .call { callee := .builtin .append, args := #[s, x], argTypes := #[t, t] })
    (base : Nat) (e : TypeId) (i : TypeInfo) (z : Value) (size bytes : Nat) (ht : P.underlying t = some (.slice e)) (hi : P.info? e = some i) (hz : i.zero = some z)
    (hsize : i.size = size) (hby : i.bytes = bytes) (hzs : z.cells.size = size) (hsz : 0 < size)
    (v : Value) (n : Nat) (xs : List Value) (hs : a.eval s = v) (hown : w.ownsRow base e size v n xs)
    (sv : Value) (m : Nat) (news : List Value) (hx : a.eval x = sv) (hsl : Sl w size sv m news) (h1 : ∀ u ∈ news, u.oneCell' = true)
    (h63 : n + m ≤ maxLen) (hbytes : (n + m) * bytes ≤ 140737488355328) (hbase : base ≤ w.heap.size)
    (h : ∀ v' w', w'.ownsRow base e size v' (n + m) (xs ++ news) → w.grownBy w' v.ownBlock → wpList P ops Q rest (a.put o.dst v') w') : wpList P ops Q (o :: rest) a w := by
  obtain ⟨hl, ⟨rfl, rfl⟩ | ⟨ad, c, rfl, hc1, hc2, hc⟩⟩ := hsl
  · have hn : news = [] := List.eq_nil_of_length_eq_zero (by simpa using hl)
    subst hn
    refine wpList_append_own_none hgd s x t ho base e i size ht hi v n xs hs hown hx (h v w (by simpa using hown) (World.grownBy.refl w _))
  · refine wpList_append_own w hgd s x t ho base e i z size bytes ht hi hz hsize hby hzs hsz v n xs hs hown ad m c news hx hl (fun j u hj => ?_) h1 h63 hbytes hbase (fun v' w' h2 h3 _ => h v' w' h2 h3)
    obtain ⟨s1, s2⟩ := hc j u hj
    have e : ad.add j = ⟨ad.block, ad.off + j, none⟩ := by
      unfold Addr.add
      split
      · rename_i h0; subst h0; cases ad; simp at s1; simp [s1]
      · rfl
    rw [e]; exact s2

/-- an operation whose guard says yes is as one without a guard -/
theorem wpList_want {P : Program} {w : World} {ops : Array Oper} {rest : List Oper} {o : Oper} {a : Act} {Q : Exit → Act → World → Prop} (hw : Region.wanted o (yielded ops a.tmps) = true)
    (h : wpList P ops Q ({ o with guard := none } :: rest) a w) : wpList P ops Q (o :: rest) a w := by
  simp only [wpList] at h ⊢
  rw [if_pos hw]
  rw [if_pos (by rfl)] at h
  exact h

/-- a byte's cell -/
def B (b : UInt8) : Value := .int .u8 (b.toNat : Int)

theorem run_to_string {P : Program} {w : World} (t st e : TypeId) (ht : P.underlying t = some (.slice e)) (he : P.underlying e = some (.int .u8)) (hst : P.underlying st = some .string)
    (sv : Value) (n : Nat) (l : List UInt8) (hsl : Sl w 1 sv n (l.map B)) : (convert t st sv).run P w = .ok (.string ⟨l.toArray⟩) w := by
  obtain ⟨hl, ⟨rfl, rfl⟩ | ⟨ad, c, rfl, h1, h2, hc⟩⟩ := hsl
  · have hn : l = [] := List.eq_nil_of_length_eq_zero (by simpa using hl)
    subst hn
    exact run_convert_bytes_nil w t e ht he 0 0 st hst
  · have hn : n = l.length := by simpa using hl.symm
    subst hn
    refine run_convert_bytes_back w t st e ad c l ht he hst (fun j hj => ?_)
    have hg : (l.map B)[j]? = some (B l[j]) := by simp [hj]
    obtain ⟨s1, s2⟩ := hc j _ hg
    have e1 : ad.add j = ⟨ad.block, ad.off + j, none⟩ := by
      unfold Addr.add
      split
      · rename_i h0; subst h0; cases ad; simp at s1; simp [s1]
      · rfl
    rw [e1]; exact s2

/-- 'string(b)' -/
theorem wpList_to_string {P : Program} {w : World} {ops : Array Oper} {rest : List Oper} {o : Oper} {a : Act} {Q : Exit → Act → World → Prop} (hgd : o.guard = none) (t st e : TypeId) (x : Operand)
    (ho : o.op = .convert t st x) (ht : P.underlying t = some (.slice e)) (he : P.underlying e = some (.int .u8)) (hst : P.underlying st = some .string)
    (sv : Value) (n : Nat) (l : List UInt8) (hx : a.eval x = sv) (hsl : Sl w 1 sv n (l.map B))
    (h : wpList P ops Q rest (a.put o.dst (.string ⟨l.toArray⟩)) w) : wpList P ops Q (o :: rest) a w := by
  refine wpList_plain hgd fun K hK => ?_
  have hrun := run_to_string t st e ht he hst sv n l hsl
  unfold Oper.wp
  simp [execOp, ho, hx, hrun, Result.andThen]
  exact hK _ _ h

/-- 'min' of two ints, as a number of its own -/
theorem wpList_min {P : Program} {w : World} {ops : Array Oper} {rest : List Oper} {o : Oper} {a : Act} {Q : Exit → Act → World → Prop} (hgd : o.guard = none) (x y : Operand) (t : TypeId)
    (ho : o.op = .call { callee := .builtin .min, args := #[x, y], argTypes := #[t, t] }) (n k : Nat) (hx : a.eval x = .int .i64 (n : Int)) (hy : a.eval y = .int .i64 (k : Int))
    (h : ∀ m : Nat, m ≤ n → m ≤ k → n ≤ m ∨ k ≤ m → wpList P ops Q rest (a.put o.dst (.int .i64 (m : Int))) w) : wpList P ops Q (o :: rest) a w := by
  refine wpList_plain hgd fun K hK => ?_
  have e : (if k < n then (k : Int) else (n : Int)) = ((min n k : Nat) : Int) := by
    split <;> omega
  unfold Oper.wp
  simp [execOp, ho, resolve, invoke, builtin, hx, hy, Builtin.min_, Builtin.min2]
  rw [e]
  exact hK _ _ (h (min n k) (by omega) (by omega) (by omega))

theorem frozen_out {w : World} {b j lo hi : Nat} {C : Array Value} {e : TypeId} (h : w.heap[b]? = some (.cells C e (lo, hi))) (hj : j < lo) : w.frozen? ⟨b, j, none⟩ = false := by
  simp [World.frozen?, h]; omega

/-- '[]byte(s)': new memory that reads as s, and may be written -/
theorem wpList_to_bytes {P : Program} {w : World} {ops : Array Oper} {rest : List Oper} {o : Oper} {a : Act} {Q : Exit → Act → World → Prop} (hgd : o.guard = none) (st t e : TypeId) (x : Operand)
    (ho : o.op = .convert st t x) (ht : P.underlying t = some (.slice e)) (he : P.underlying e = some (.int .u8)) (hst : P.underlying st = some .string)
    (s : ByteArray) (hx : a.eval x = .string s) (hs : s.size ≤ maxLen)
    (h : ∀ (b cap : Nat) (w' : World), w.heap.size ≤ b → s.size ≤ cap → cap ≤ maxLen → Below w.heap.size w w' → (∀ j u, (s.data.toList.map B)[j]? = some u → w'.cell? ⟨b, j, none⟩ = some u ∧ w'.frozen? ⟨b, j, none⟩ = false) →
      wpList P ops Q rest (a.put o.dst (.slice (some ⟨b, 0, none⟩) s.size cap)) w') : wpList P ops Q (o :: rest) a w := by
  refine wpList_plain hgd fun K hK => ?_
  have hrun := run_bytes_of_string (P := P) w st t e s hst ht he
  have hge := grownCap_ge w s.size 0 e
  have hsz : (bytesRow s (grownCap w s.size 0 e)).size = grownCap w s.size 0 e := by
    simp only [bytesRow, Array.size_append, Array.size_map, Array.size_replicate]
    have : s.data.size = s.size := rfl
    omega
  have hnew : (w.drew.alloc (.cells (bytesRow s (grownCap w s.size 0 e)) e ((bytesRow s (grownCap w s.size 0 e)).size, (bytesRow s (grownCap w s.size 0 e)).size + 1))).heap[w.heap.size]? = some (.cells (bytesRow s (grownCap w s.size 0 e)) e ((bytesRow s (grownCap w s.size 0 e)).size, (bytesRow s (grownCap w s.size 0 e)).size + 1)) := by
    have := heap_alloc_new w.drew (.cells (bytesRow s (grownCap w s.size 0 e)) e ((bytesRow s (grownCap w s.size 0 e)).size, (bytesRow s (grownCap w s.size 0 e)).size + 1))
    exact this
  unfold Oper.wp
  simp [execOp, ho, hx, hrun, Result.andThen]
  refine hK _ _ (h _ _ _ (Nat.le_refl _) hge (grownCap_le_maxLen w s.size 0 e hs) ?_ ?_)
  · exact ((Below.refl w.heap.size w).drew.alloc (Nat.le_refl _) _)
  · intro j u hj
    have hjs : j < s.data.toList.length := by
      have := (List.getElem?_eq_some_iff.1 hj).1
      simpa using this
    have hjs' : j < s.data.size := by simpa using hjs
    constructor
    · simp only [World.cell?, hnew]
      rw [if_neg (by simp)]
      rw [← hj]
      simp only [bytesRow]
      rw [Array.getElem?_append_left (by simpa using hjs')]
      simp []; rfl
    · have e1 : s.data.size = s.size := rfl
      exact frozen_out hnew (by omega)

theorem own_pos {w : World} {base : Nat} {e : TypeId} {size : Nat} {v : Value} {n : Nat} {xs : List Value} (h : w.ownsRow base e size v n xs) (hn : 1 ≤ n) :
    ∃ g cap, v = .slice (some ⟨g, 0, none⟩) n cap ∧ base ≤ g ∧ n ≤ cap ∧ cap ≤ maxLen := by
  obtain ⟨hl, ⟨_, rfl⟩ | ⟨g, cap, cur, rfl, hb, hg, h1, h2, hs, hx⟩⟩ := h
  · omega
  · exact ⟨g, cap, rfl, hb, h1, h2⟩

theorem le_alloc {B : Nat} {w : World} (h : B ≤ w.heap.size) (o : Obj) : B ≤ (w.alloc o).heap.size := by simp; omega

theorem below_setRow {B : Nat} {a w : World} (h : Below B a w) {g : Nat} (hg : B ≤ g) (cs : Array Value) : Below B a (w.setRow g cs) := by
  refine h.trans ⟨rfl, rfl, rfl, by simp, fun k hk => ?_⟩
  simp only [World.setRow, Array.getElem?_modify]
  rw [if_neg (by omega)]

theorem take_snoc (s : ByteArray) (k : Nat) (h : k < s.size) : s.data.toList.take (k + 1) = s.data.toList.take k ++ [s[k]] := by
  rw [List.take_succ_eq_append_getElem (by simpa using h)]; rfl
theorem take_all (s : ByteArray) : s.data.toList.take s.size = s.data.toList := List.take_of_length_le (by simp)

/-! REGIONS THAT DRAW THEIR ORDER AND HOLD CALLS THAT MAKE MEMORY: the class of all worlds that are as W was below B. -/
theorem callFunc_enter {P : Program} {f : FuncId} {fn : Func} (hf : P.funcs[f]? = some fn) (hn : (fn.name == "runtime.NumGoroutine") = false) (hb : fn.body.isSome = true) (args : Array Value) (w : World) :
    (callFunc f args).run P w = .ok (.enter f args) w := by
  have h1 : fn.name ≠ "runtime.NumGoroutine" := by simpa using hn
  obtain ⟨b, h2⟩ := Option.isSome_iff_exists.1 hb
  simp [callFunc, hf, h1, h2]

/-- the class of all worlds that are as W was, below W's size -/
def In (W w' : World) : Prop := Below W.heap.size W w'
theorem In.go {W w w' : World} (h : In W w) (hb : Below w.heap.size w w') : In W w' := Below.trans h (hb.mono (Below.size h))
theorem In.sl {W w : World} (h : In W w) {size : Nat} {v : Value} {n : Nat} {xs : List Value} (hs : Sl W size v n xs) : Sl w size v n xs := hs.below h
theorem region_in {P : Program} {id : Nat} {Q : Exit → Act → World → Prop} {a : Act} {w : World} {l : List Oper} (hm : P.follows .mixedOrders = true) (hB : Region.lexB .any l.toArray = true)
    (h : wpQuiet P l.toArray (In w) (fun a' => ∀ w', In w w' → Q .normal a' w') l a) : (Code.region id l.toArray true).wp P Q a w :=
  wp_region_quiet (C := In w) hm hB (Below.refl _ _).drew (by simpa using h)

theorem region_class {P : Program} {C : World → Prop} {id : Nat} {Q : Exit → Act → World → Prop} {a : Act} {w : World} {l : List Oper} (hC : C w.drew) (hm : P.follows .mixedOrders = true) (hB : Region.lexB .any l.toArray = true)
    (h : wpQuiet P l.toArray C (fun a' => ∀ w', C w' → Q .normal a' w') l a) : (Code.region id l.toArray true).wp P Q a w :=
  wp_region_quiet (C := C) hm hB hC (by simpa using h)

theorem quiet_call {P : Program} {C : World → Prop} {o : Oper} {a : Act} {K : Act → Prop} (f : FuncId) (xs : Array Operand) (ats : Array TypeId) (ho : o.op = .call { callee := .value (.func f), args := xs, argTypes := ats }) {fn : Func}
    (hf : P.funcs[f]? = some fn) (hn : (fn.name == "runtime.NumGoroutine") = false) (hb : fn.body.isSome = true) (args : Array Value) (hargs : #[] ++ xs.map a.eval ++ #[] = args) (v : Value)
    (h : ∀ w, C w → Calls P f args w fun e w' => e = .returned v ∧ C w') (hk : K (a.put o.dst v)) : o.quiet P a C K := by
  refine ⟨v, fun w hw => ?_, hk⟩
  unfold Oper.quietAt
  have e : execOp a.eval o = callFunc f args := by
    obtain ⟨dst, op, ty, pos, after, guard⟩ := o
    simp only at ho
    subst ho hargs
    rfl
  rw [e, callFunc_enter hf hn hb]
  exact ⟨rfl, h w hw⟩

theorem quiet_to_string {P : Program} {C : World → Prop} {o : Oper} {a : Act} {K : Act → Prop} (t st e : TypeId) (x : Operand)
    (ho : o.op = .convert t st x) (ht : P.underlying t = some (.slice e)) (he : P.underlying e = some (.int .u8)) (hst : P.underlying st = some .string)
    (sv : Value) (n : Nat) (l : List UInt8) (hx : a.eval x = sv) (hsl : ∀ w, C w → Sl w 1 sv n (l.map B)) (hk : K (a.put o.dst (.string ⟨l.toArray⟩))) : o.quiet P a C K := by
  refine ⟨_, fun w hw => ?_, hk⟩
  have hrun := run_to_string t st e ht he hst sv n l (hsl w hw)
  unfold Oper.quietAt
  simp [execOp, ho, hx, hrun, Result.andThen, Oper.quietUpon]

/-- nothing but draws -/
def Dr (w w' : World) : Prop := ∃ n, w' = w.drewN n
theorem Dr.refl (w : World) : Dr w w := ⟨0, rfl⟩
theorem Dr.drew {w w' : World} (h : Dr w w') : Dr w w'.drew := by
  obtain ⟨n, rfl⟩ := h
  exact ⟨n + 1, rfl⟩
theorem Dr.trans {a b c : World} (h : Dr a b) (k : Dr b c) : Dr a c := by
  obtain ⟨n, rfl⟩ := h
  obtain ⟨m, rfl⟩ := k
  exact ⟨n + m, by rw [World.drewN_drewN]⟩
theorem Dr.below {w w' : World} (h : Dr w w') (B : Nat) : Below B w w' := by
  obtain ⟨n, rfl⟩ := h
  exact ⟨rfl, rfl, rfl, Nat.le_refl _, fun _ _ => rfl⟩
theorem Dr.heap {w w' : World} (h : Dr w w') : w'.heap = w.heap := by
  obtain ⟨n, rfl⟩ := h; rfl

/-- a callee's contract in a region's quiet walk -/
theorem q_same {P : Program} {f : FuncId} {args : Array Value} {w : World} {n : Nat} {v : Value}
    (h : Calls P f args (w.drewN n) fun e w' => e = .returned v ∧ w.drewN n = w') : Calls P f args (w.drewN n) fun e w'' => e = .returned v ∧ ∃ m, w'' = w.drewN m :=
  h.mono fun _ _ ⟨he, hm⟩ => ⟨he, n, hm.symm⟩
theorem q_dr {P : Program} {f : FuncId} {args : Array Value} {w : World} {n : Nat} {v : Value}
    (h : Calls P f args (w.drewN n) fun e w' => e = .returned v ∧ Dr (w.drewN n) w') : Calls P f args (w.drewN n) fun e w'' => e = .returned v ∧ ∃ m, w'' = w.drewN m :=
  h.mono fun _ _ ⟨he, hm⟩ => ⟨he, Dr.trans ⟨n, rfl⟩ hm⟩

theorem ret_bool {a b : Bool} (h : a = b) : Ending.returned (.bool a) = .returned (.bool b) := by rw [h]
theorem ret_int {k : IntKind} {a b : Int} (h : a = b) : Ending.returned (.int k a) = .returned (.int k b) := by rw [h]

end Kit
end Go.Proofs.Ytdcenocljnlipaa

namespace Go.Proofs.Ytdcenocljnlipaa
open Go.ChangeShapes Go.WideShapes Go.ChangeAt Go.RowKit
namespace Kit

theorem own : ownKnob Try.prog.godebug = none := by kernel_rfl
theorem laidOut : laidOutB Try.prog = true := by kernel_rfl

theorem add_spot {w : World} {a : Addr} {i : Nat} {u : Value} (h : w.cell? (a.add i) = some u) : (i = 0 → a.spot = none) ∧ w.cell? ⟨a.block, a.off + i, none⟩ = some u := by
  unfold Addr.add at h
  by_cases h0 : i = 0
  · subst h0
    simp only [] at h
    have hs : a.spot = none := World.cell?_spot h
    obtain ⟨b, o, s⟩ := a
    simp only at hs
    subst hs
    exact ⟨fun _ => rfl, h⟩
  · rw [if_neg h0] at h
    exact ⟨fun e => (h0 e).elim, h⟩

theorem sl_ints {w : World} {k : IntKind} {a : Addr} {len cap : Nat} {zs : List Int} (hl : len ≤ cap) (hm : cap ≤ maxLen) (hz : zs.length = cap)
    (hc : ∀ i, i < zs.length → w.cell? (a.add i) = some (.int k (zs.getD i 0))) : Sl w 1 (.slice (some a) len cap) len ((zs.take len).map (Value.int k)) := by
  refine ⟨by simp; omega, .inr ⟨a, cap, rfl, hl, hm, fun j u hj => ?_⟩⟩
  have hjl : j < len := by
    have := (List.getElem?_eq_some_iff.1 hj).1
    simp at this; omega
  have h0 := add_spot (hc 0 (by omega))
  have hj' := add_spot (hc j (by omega))
  refine ⟨h0.1 rfl, ?_⟩
  rw [hj'.2]
  rw [← hj]
  simp [hjl, List.getD_eq_getElem?_getD]
  rw [List.getElem?_eq_getElem (by omega)]; simp

/-- a slice of integers that came in -/
theorem open_sl {H : Type} {enc : TypeId × Value → H} {P : Program} {W : World} {base : Nat} {spare : Nat → Bool} {held : Bool} {t e : TypeId} {k : IntKind} {v : Value} {d : DataW H} {ps : List MemPlace} {r : Reach}
    (hu : P.underlying t = some (.slice e)) (he : P.underlying e = some (.int k)) (hce : P.cellsOf e = 1) (hsp : ∀ b, spare b = true)
    (hval : Value.okWide P W r base t v) (h : DataW.Trod enc P W 0 spare held t v d ps) :
    ∃ (n : Nat) (zs : List Int), Sl W 1 v n (zs.map (Value.int k)) ∧ zs.length = n ∧ ∀ z ∈ zs, (Lit.int k z).wf = true := by
  obtain ⟨a0, len0, cap0, rfl⟩ := okWide_slice hu hval
  obtain ⟨fuel, hf⟩ := h
  rcases open_ints hu he hce hf with ⟨hcs, _⟩ | ⟨x, l, c, zs, hcs, _, hl, hm, hz, _, hcell, hwz⟩
  · simp [Value.cells] at hcs
    obtain ⟨rfl, rfl, rfl⟩ := hcs
    exact ⟨0, [], Sl.nil _ _, rfl, by simp⟩
  · simp [Value.cells] at hcs
    obtain ⟨rfl, rfl, rfl⟩ := hcs
    rw [hsp, if_pos rfl] at hz
    exact ⟨len0, zs.take len0, sl_ints hl hm hz hcell, by simp; omega, fun z hz' => hwz z (List.mem_of_mem_take hz')⟩

/-- an array of integers by value, that came in -/
theorem open_arr {H : Type} {enc : TypeId × Value → H} {P : Program} {W : World} {base b0 : Nat} {spare : Nat → Bool} {held : Bool} {t e n : Nat} {k : IntKind} {v : Value} {d : DataW H} {ps : List MemPlace} {r : Reach}
    (hu : P.underlying t = some (.array n e)) (he : P.underlying e = some (.int k)) (hce : P.cellsOf e = 1) (hct : P.cellsOf t = n)
    (hval : Value.okWide P W r base t v) (h : DataW.Trod enc P W b0 spare held t v d ps) :
    ∃ zs : List Int, zs.length = n ∧ v = .agg (zs.map (Value.int k)).toArray ∧ ∀ z ∈ zs, (Lit.int k z).wf = true := by
  simp only [Value.okWide, hu] at hval
  obtain ⟨cs, rfl, h2, _⟩ := hval
  rw [hct] at h2
  obtain ⟨fuel, hf⟩ := h
  obtain ⟨xs, m, _, _, _, hx, hi⟩ := DataW.trod_array hu hf
  have hc : (Value.agg cs).cells.toList = cs.toList := rfl
  rw [hc, hce] at hi
  have key : ∀ i (hi' : i < n), ∃ z, cs[i]? = some (.int k z) ∧ (Lit.int k z).wf = true := by
    intro i hi'
    have h0 := hi i hi'
    rw [List.getElem?_eq_getElem (by omega)] at h0
    obtain ⟨z, hz, _, hw⟩ := DataW.trod_int he h0
    refine ⟨z, ?_, hw⟩
    have : ((cs.toList.drop (i * 1)).take 1)[0]? = some (.int k z) := by rw [hz]; rfl
    rw [List.getElem?_take, if_pos (by omega), List.getElem?_drop] at this
    simpa using this
  have : ∀ l : List Value, (∀ u ∈ l, ∃ z, u = .int k z ∧ (Lit.int k z).wf = true) → ∃ zs : List Int, l = zs.map (Value.int k) ∧ ∀ z ∈ zs, (Lit.int k z).wf = true := by
    intro l
    induction l with
    | nil => intro _; exact ⟨[], rfl, by simp⟩
    | cons u l ih =>
      intro hl
      obtain ⟨z, rfl, hz⟩ := hl u (by simp)
      obtain ⟨zs, rfl, hzs⟩ := ih (fun u hu => hl u (by simp [hu]))
      exact ⟨z :: zs, rfl, by intro y hy; rcases List.mem_cons.1 hy with rfl | hy; exact hz; exact hzs y hy⟩
  obtain ⟨zs, h1, h3⟩ := this cs.toList (fun u hu => by
    obtain ⟨i, hi1, hi2⟩ := List.getElem_of_mem hu
    have hi1' : i < n := by simp at hi1; omega
    obtain ⟨z, hz, hw⟩ := key i hi1'
    refine ⟨z, ?_, hw⟩
    rw [← hi2]
    have := (Array.getElem?_eq_some_iff.1 hz).2
    simpa using this)
  refine ⟨zs, ?_, ?_, h3⟩
  · have := congrArg List.length h1
    simp at this; omega
  · rw [← h1]

end Kit
end Go.Proofs.Ytdcenocljnlipaa

namespace Go.Proofs.Ytdcenocljnlipaa
open Go.RowKit
namespace Ab
abbrev Names := Nat → Value
/-- a world, and from which cell on each block of the call's own may turn -/
structure Kw where
  w : World
  own : Nat → Option Nat
  lt : ∀ b k, own b = some k → b < w.heap.size
/-- what may not turn has not turned -/
structure Kw.le (κ κ' : Kw) : Prop where
  os : κ'.w.os = κ.w.os
  tape : κ'.w.tape = κ.w.tape
  output : κ'.w.output = κ.w.output
  size : κ.w.heap.size ≤ κ'.w.heap.size
  still : ∀ b, b < κ.w.heap.size → κ.own b = none → κ'.own b = none ∧ κ'.w.heap[b]? = κ.w.heap[b]?
  grow : ∀ b k, κ.own b = some k → (∀ k', κ'.own b = some k' → k ≤ k') ∧ ∀ j u, j < k → κ.w.cell? ⟨b, j, none⟩ = some u → κ'.w.cell? ⟨b, j, none⟩ = some u
theorem Kw.le_refl (κ : Kw) : κ.le κ := ⟨rfl, rfl, rfl, Nat.le_refl _, fun _ _ h => ⟨h, rfl⟩, fun b k h => ⟨fun k' h' => by rw [h] at h'; cases h'; exact Nat.le_refl _, fun _ _ _ h => h⟩⟩
theorem lt_of_cell {w : World} {b off : Nat} {sp : Option Nat} {u : Value} (h : w.cell? ⟨b, off, sp⟩ = some u) : b < w.heap.size := by
  simp only [World.cell?] at h
  cases hb : w.heap[b]? with
  | none => simp [hb] at h
  | some o => exact (Array.getElem?_eq_some_iff.1 hb).1
theorem Kw.cell {κ κ' : Kw} (h : κ.le κ') {b j : Nat} {u : Value} (hc : κ.w.cell? ⟨b, j, none⟩ = some u) (hk : ∀ k, κ.own b = some k → j < k) :
    κ'.w.cell? ⟨b, j, none⟩ = some u ∧ ∀ k, κ'.own b = some k → j < k := by
  cases ho : κ.own b with
  | none =>
    obtain ⟨h1, h2⟩ := h.still b (lt_of_cell hc) ho
    refine ⟨?_, fun k hk' => by rw [h1] at hk'; cases hk'⟩
    simp only [World.cell?] at hc ⊢
    rw [h2]; exact hc
  | some k =>
    obtain ⟨h1, h2⟩ := h.grow b k ho
    exact ⟨h2 j u (hk k ho) hc, fun k' hk' => Nat.lt_of_lt_of_le (hk k ho) (h1 k' hk')⟩
theorem Kw.le_trans {a b c : Kw} (h : a.le b) (k : b.le c) : a.le c := by
  refine ⟨k.os.trans h.os, k.tape.trans h.tape, k.output.trans h.output, Nat.le_trans h.size k.size, fun i hi ho => ?_, fun i n ho => ?_⟩
  · obtain ⟨h1, h2⟩ := h.still i hi ho
    obtain ⟨k1, k2⟩ := k.still i (Nat.lt_of_lt_of_le hi h.size) h1
    exact ⟨k1, k2.trans h2⟩
  · obtain ⟨h1, h2⟩ := h.grow i n ho
    refine ⟨fun n' ho' => ?_, fun j u hj hu => ?_⟩
    · cases hb : b.own i with
      | none =>
        have := (k.still i (Nat.lt_of_lt_of_le (a.lt i n ho) h.size) hb).1
        rw [this] at ho'; cases ho'
      | some m => exact Nat.le_trans (h1 m hb) ((k.grow i m hb).1 n' ho')
    · have := h2 j u hj hu
      exact (Kw.cell k this (fun m hm => Nat.lt_of_lt_of_le hj (h1 m hm))).1

/-- what a slot holds -/
structure AV where
  p : Names → Kw → Value → Prop
  sup : List Nat
  loc : ∀ {σ σ' κ v}, (∀ i ∈ sup, σ' i = σ i) → p σ κ v → p σ' κ v
  mono : ∀ {σ κ κ' v}, κ.le κ' → p σ κ v → p σ κ' v
def Is (v : Value) : AV := ⟨fun _ _ u => u = v, [], fun _ h => h, fun _ h => h⟩
def Any : AV := ⟨fun _ _ _ => True, [], fun _ h => h, fun _ h => h⟩
/-- so where c holds; else nothing was laid -/
def Cnd (c : Prop) (A : AV) : AV := ⟨fun σ κ u => (c → A.p σ κ u) ∧ (¬ c → u = undef), A.sup, fun hs h => ⟨fun hc => A.loc hs (h.1 hc), h.2⟩, fun hk h => ⟨fun hc => A.mono hk (h.1 hc), h.2⟩⟩
/-- a guard: it lets through just where g holds -/
def Grd (B : AV) (want : Bool) (g : Prop) : Prop := ∀ σ κ v, B.p σ κ v → (g → v = .bool want) ∧ (¬ g → v ≠ .bool want)
theorem Grd.is {B : AV} {want β : Bool} (h : B = Is (.bool β)) : Grd B want (β = want) := fun σ κ v hv => by
  subst h
  have hv : v = .bool β := hv
  subst hv
  exact ⟨fun e => by rw [e], fun e h => e (by injection h)⟩
theorem Grd.cnd {B : AV} {want β : Bool} {c : Prop} (h : B = Cnd c (Is (.bool β))) : Grd B want (c ∧ β = want) := fun σ κ v hv => by
  subst h
  obtain ⟨h1, h2⟩ := hv
  by_cases hc : c
  · have hv : v = .bool β := h1 hc
    subst hv
    exact ⟨fun e => by rw [e.2], fun e h => e ⟨hc, by injection h⟩⟩
  · rw [h2 hc]
    exact ⟨fun e => absurd e.1 hc, fun _ h => by cases h⟩
def Ptr (id off : Nat) : AV := ⟨fun σ _ u => ∃ b, σ id = .pointer (some ⟨b, 0, none⟩) ∧ u = .pointer (some ⟨b, off, none⟩), [id],
  fun hs ⟨b, h1, h2⟩ => ⟨b, (hs id (by simp)).trans h1, h2⟩, fun _ h => h⟩
/-- from an address on these cells stand, and may not turn -/
def Rd (κ : Kw) (ad : Addr) (xs : List Value) : Prop := ∀ j u, xs[j]? = some u → ad.spot = none ∧ κ.w.cell? ⟨ad.block, ad.off + j, none⟩ = some u ∧ ∀ k, κ.own ad.block = some k → ad.off + j < k
theorem Rd.mono {κ κ' : Kw} (hk : κ.le κ') {ad : Addr} {xs : List Value} (h : Rd κ ad xs) : Rd κ' ad xs := fun j u hj => by
  obtain ⟨h1, h2, h3⟩ := h j u hj
  exact ⟨h1, Kw.cell hk h2 h3⟩
def SlP (κ : Kw) (e n : Nat) (xs : List Value) (u : Value) : Prop :=
  xs.length = n * e ∧ ((u = .slice none 0 0 ∧ n = 0) ∨ ∃ ad c, u = .slice (some ad) n c ∧ n ≤ c ∧ c ≤ maxLen ∧ Rd κ ad xs)
theorem SlP.mono {κ κ' : Kw} (hk : κ.le κ') {e n : Nat} {xs : List Value} {u : Value} (h : SlP κ e n xs u) : SlP κ' e n xs u := by
  obtain ⟨hl, h | ⟨ad, c, h1, h2, h3, h4⟩⟩ := h
  · exact ⟨hl, .inl h⟩
  · exact ⟨hl, .inr ⟨ad, c, h1, h2, h3, h4.mono hk⟩⟩
/-- a slice of n elements of e cells each that reads as these cells -/
def Sl (e n : Nat) (xs : List Value) : AV := ⟨fun _ κ u => SlP κ e n xs u, [], fun _ h => h, fun hk h => h.mono hk⟩
/-- so one of the call's own -/
def Own (id e n : Nat) (xs : List Value) : AV := ⟨fun σ κ u => u = σ id ∧ SlP κ e n xs u, [id], fun hs ⟨h1, h2⟩ => ⟨h1.trans (hs id (by simp)).symm, h2⟩, fun hk ⟨h1, h2⟩ => ⟨h1, h2.mono hk⟩⟩
/-- the address of cells that may not turn -/
def Elt (xs : List Value) : AV := ⟨fun _ κ u => ∃ ad, u = .pointer (some ad) ∧ Rd κ ad xs, [], fun _ h => h, fun hk ⟨ad, h1, h2⟩ => ⟨ad, h1, h2.mono hk⟩⟩
def All2 (σ : Names) (κ : Kw) : List AV → List Value → Prop
  | [], [] => True
  | A :: l, v :: vs => A.p σ κ v ∧ All2 σ κ l vs
  | _, _ => False
theorem All2.loc {σ σ' : Names} {κ : Kw} : ∀ {l : List AV} {vs : List Value}, (∀ A ∈ l, ∀ i ∈ A.sup, σ' i = σ i) → All2 σ κ l vs → All2 σ' κ l vs
  | [], [], _, _ => trivial
  | A :: l, v :: vs, hs, ⟨h1, h2⟩ => ⟨A.loc (hs A (by simp)) h1, All2.loc (fun B hB => hs B (by simp [hB])) h2⟩
  | [], _ :: _, _, h => h
  | _ :: _, [], _, h => h
theorem All2.mono {σ : Names} {κ κ' : Kw} (hk : κ.le κ') : ∀ {l : List AV} {vs : List Value}, All2 σ κ l vs → All2 σ κ' l vs
  | [], [], _ => trivial
  | A :: _, _ :: _, ⟨h1, h2⟩ => ⟨A.mono hk h1, All2.mono hk h2⟩
  | [], _ :: _, h => h
  | _ :: _, [], h => h
theorem All2.length {σ : Names} {κ : Kw} : ∀ {l : List AV} {vs : List Value}, All2 σ κ l vs → vs.length = l.length
  | [], [], _ => rfl
  | _ :: _, _ :: _, ⟨_, h2⟩ => by simp [All2.length h2]
  | [], _ :: _, h => h.elim
  | _ :: _, [], h => h.elim
/-- none of them speaks of the call's own -/
def NS (l : List AV) : Prop := ∀ A ∈ l, A.sup = []
theorem All2.any {σ : Names} {κ : Kw} {l : List AV} {vs : List Value} (hn : NS l) (σ' : Names) (h : All2 σ κ l vs) : All2 σ' κ l vs :=
  h.loc fun A hA i hi => by rw [hn A hA] at hi; cases hi
theorem sup_mem {l : List AV} {A : AV} {i : Nat} (hA : A ∈ l) (hi : i ∈ A.sup) : i ∈ l.flatMap AV.sup := List.mem_flatMap.2 ⟨A, hA, hi⟩
def Agg (l : List AV) : AV := ⟨fun σ κ u => ∃ us : List Value, u = .agg us.toArray ∧ All2 σ κ l us, l.flatMap AV.sup,
  fun hs ⟨us, h1, h2⟩ => ⟨us, h1, h2.loc fun _A hA i hi => hs i (sup_mem hA hi)⟩, fun hk ⟨us, h1, h2⟩ => ⟨us, h1, h2.mono hk⟩⟩
def Tup (l : List AV) : AV := ⟨fun σ κ u => ∃ us : List Value, u = .tuple us.toArray ∧ All2 σ κ l us, l.flatMap AV.sup,
  fun hs ⟨us, h1, h2⟩ => ⟨us, h1, h2.loc fun _A hA i hi => hs i (sup_mem hA hi)⟩, fun hk ⟨us, h1, h2⟩ => ⟨us, h1, h2.mono hk⟩⟩

/-- rounds of a range over a function, by the loop's number: how many there are at most, of what, and which go on -/
structure ItC where
  l : Nat
  n : Nat
  vals : Nat → List AV
  go : Nat → Bool
/-- memory of the call's own: a variable, or a row that grows at its end; how many rounds have been -/
inductive Chunk where
  | var (t : TypeId) (cs : List AV)
  | row (t : TypeId) (e n : Nat) (xs : List Value)
  | buf (t : TypeId) (l : List Value)
  | bfe (t : TypeId) (e : Nat) (l : List Value)
  | arr (t : TypeId) (l : List Value)
  | rowA (t : TypeId) (e n : Nat) (cs : List AV)
  | idx (I : ItC) (k : Nat)
def Chunk.sup : Chunk → List Nat
  | .var _ cs => cs.flatMap AV.sup
  | .row .. => []
  | .buf .. => []
  | .bfe .. => []
  | .arr .. => []
  | .rowA .. => []
  | .idx .. => []
def blk : Value → Option Nat
  | .pointer (some a) => some a.block
  | .slice (some a) _ _ => some a.block
  | _ => none
def Chunk.at (σ : Names) (κ : Kw) (u : Value) : Chunk → Prop
  | .var t cs => ∃ b us, u = .pointer (some ⟨b, 0, none⟩) ∧ κ.w.heap[b]? = some (.cells us t (0, 0)) ∧ All2 σ κ cs us.toList ∧ κ.own b = some 0
  | .row t e n xs => κ.w.ownsRow 0 t e u n xs ∧ ∀ g, blk u = some g → κ.own g = some (n * e)
  | .buf t l => ∃ b tl fr c, u = .slice (some ⟨b, 0, none⟩) l.length c ∧ κ.w.heap[b]? = some (.cells (l ++ tl).toArray t fr) ∧ (∀ j, j < c → ¬ (fr.1 ≤ j ∧ j < fr.2)) ∧ l.length + tl.length = c ∧ c ≤ maxLen ∧ κ.own b = some 0
  | .bfe t e l => (u = .slice none 0 0 ∧ l = []) ∨ ∃ b tl fr n c, u = .slice (some ⟨b, 0, none⟩) n c ∧ κ.w.heap[b]? = some (.cells (l ++ tl).toArray t fr) ∧ (∀ j, j < c * e → ¬ (fr.1 ≤ j ∧ j < fr.2)) ∧ l.length = n * e ∧ l.length + tl.length = c * e ∧ n ≤ c ∧ c ≤ maxLen ∧ κ.own b = some 0
  | .arr t l => ∃ b, u = .pointer (some ⟨b, 0, none⟩) ∧ κ.w.heap[b]? = some (.cells l.toArray t (0, 0)) ∧ κ.own b = some 0
  | .rowA t e n cs => NS cs ∧ ∃ xs, κ.w.ownsRow 0 t e u n xs ∧ (∀ g, blk u = some g → κ.own g = some (n * e)) ∧ SlP κ e n xs u ∧ All2 σ κ cs xs
  | .idx _ _ => u = undef
theorem Chunk.loc {σ σ' : Names} {κ : Kw} {u : Value} {c : Chunk} (hs : ∀ i ∈ c.sup, σ' i = σ i) (h : c.at σ κ u) : c.at σ' κ u := by
  cases c with
  | row t e n xs => exact h
  | buf t l => exact h
  | bfe t e l => exact h
  | arr t l => exact h
  | rowA t e n cs => obtain ⟨hn, xs, h1, h2, h3, h4⟩ := h; exact ⟨hn, xs, h1, h2, h3, h4.any hn _⟩
  | idx I k => exact h
  | var t cs =>
    obtain ⟨b, us, h1, h2, h3, h4⟩ := h
    exact ⟨b, us, h1, h2, h3.loc fun A hA i hi => hs i (sup_mem hA hi), h4⟩
theorem Chunk.keep {σ : Names} {κ κ' : Kw} {u : Value} {c : Chunk} (hk : κ.le κ') (hb : ∀ g, blk u = some g → κ'.w.heap[g]? = κ.w.heap[g]? ∧ κ'.own g = κ.own g) (h : c.at σ κ u) : c.at σ κ' u := by
  cases c with
  | row t e n xs =>
    obtain ⟨⟨hl, h1⟩, h2⟩ := h
    refine ⟨⟨hl, ?_⟩, fun g hg => by rw [(hb g hg).2]; exact h2 g hg⟩
    rcases h1 with h1 | ⟨g, cap, cur, h3, h4, h5, h6⟩
    · exact .inl h1
    · exact .inr ⟨g, cap, cur, h3, h4, by rw [(hb g (by rw [h3]; rfl)).1]; exact h5, h6⟩
  | buf t l =>
    obtain ⟨b, tl, fr, c, h1, h2, h3, h4, h5, h6⟩ := h
    have := hb b (by rw [h1]; rfl)
    exact ⟨b, tl, fr, c, h1, by rw [this.1]; exact h2, h3, h4, h5, by rw [this.2]; exact h6⟩
  | bfe t e l =>
    rcases h with h | ⟨b, tl, fr, n, c, h1, h2, h3, h4, h5, h6, h7, h8⟩
    · exact .inl h
    have := hb b (by rw [h1]; rfl)
    exact .inr ⟨b, tl, fr, n, c, h1, by rw [this.1]; exact h2, h3, h4, h5, h6, h7, by rw [this.2]; exact h8⟩
  | arr t l =>
    obtain ⟨b, h1, h2, h3⟩ := h
    have := hb b (by rw [h1]; rfl)
    exact ⟨b, h1, by rw [this.1]; exact h2, by rw [this.2]; exact h3⟩
  | rowA t e n cs =>
    obtain ⟨hn, xs, ⟨hl, h1⟩, h2, h3, h4⟩ := h
    refine ⟨hn, xs, ⟨hl, ?_⟩, fun g hg => by rw [(hb g hg).2]; exact h2 g hg, h3.mono hk, h4.mono hk⟩
    rcases h1 with h1 | ⟨g, cap, cur, h3, h4, h5, h6⟩
    · exact .inl h1
    · exact .inr ⟨g, cap, cur, h3, h4, by rw [(hb g (by rw [h3]; rfl)).1]; exact h5, h6⟩
  | idx I k => exact h
  | var t cs =>
    obtain ⟨b, us, h1, h2, h3, h4⟩ := h
    have := hb b (by rw [h1]; rfl)
    exact ⟨b, us, h1, by rw [this.1]; exact h2, h3.mono hk, by rw [this.2]; exact h4⟩
theorem Chunk.own {σ : Names} {κ : Kw} {u : Value} {c : Chunk} (h : c.at σ κ u) {g : Nat} (hg : blk u = some g) : ∃ k, κ.own g = some k := by
  cases c with
  | row t e n xs => exact ⟨_, h.2 g hg⟩
  | buf t l =>
    obtain ⟨b, tl, fr, c, h1, h2, h3, h4, h5, h6⟩ := h
    rw [h1] at hg; cases hg
    exact ⟨_, h6⟩
  | bfe t e l =>
    rcases h with ⟨h1, _⟩ | ⟨b, tl, fr, n, c, h1, h2, h3, h4, h5, h6, h7, h8⟩
    · rw [h1] at hg; cases hg
    rw [h1] at hg; cases hg
    exact ⟨_, h8⟩
  | arr t l =>
    obtain ⟨b, h1, h2, h3⟩ := h
    rw [h1] at hg; cases hg
    exact ⟨_, h3⟩
  | rowA t e n cs => obtain ⟨_, _, _, h2, _, _⟩ := h; exact ⟨_, h2 g hg⟩
  | idx I k =>
    have h1 : u = undef := h
    rw [h1] at hg; cases hg
  | var t cs =>
    obtain ⟨b, us, h1, h2, h3, h4⟩ := h
    rw [h1] at hg; cases hg
    exact ⟨_, h4⟩
abbrev Heap := Nat → Option Chunk
structure HR (base : Nat → Prop) (σ : Names) (κ : Kw) (h : Heap) : Prop where
  at_ : ∀ i c, h i = some c → c.at σ κ (σ i)
  far : ∀ i j g, i ≠ j → h i ≠ none → h j ≠ none → blk (σ i) = some g → blk (σ j) ≠ some g
  base : ∀ i c g, h i = some c → blk (σ i) = some g → ¬ base g
def upd {α : Type} (f : Nat → α) (k : Nat) (v : α) : Nat → α := fun n => bif Nat.beq n k then v else f n
theorem upd_same {α : Type} (f : Nat → α) (k : Nat) (v : α) : upd f k v k = v := by simp [upd]
theorem upd_other {α : Type} (f : Nat → α) (k : Nat) (v : α) (n : Nat) (h : n ≠ k) : upd f k v n = f n := by
  unfold upd
  have : Nat.beq n k = false := by
    cases hb : Nat.beq n k with
    | true => exact absurd (Nat.eq_of_beq_eq_true hb) h
    | false => rfl
  rw [this]; rfl
def updl (h : Heap) : List (Nat × Option Chunk) → Heap
  | [] => h
  | (i, c) :: l => updl (upd h i c) l
theorem updl_out : ∀ (l : List (Nat × Option Chunk)) (h : Heap) (i : Nat), (∀ x ∈ l, x.1 ≠ i) → updl h l i = h i
  | [], _, _, _ => rfl
  | (j, c) :: l, h, i, hi => by
    have h1 := updl_out l (upd h j c) i (fun x hx => hi x (by simp [hx]))
    have h2 : i ≠ j := fun e => hi (j, c) (by simp) e.symm
    simp only [updl]
    rw [h1, upd_other _ _ _ _ h2]
theorem updl_congr : ∀ (l : List (Nat × Option Chunk)) (h h' : Heap) (i : Nat), (h i = h' i ∨ ∃ x ∈ l, x.1 = i) → updl h l i = updl h' l i
  | [], _, _, _, hi => by
    rcases hi with hi | ⟨x, hx, _⟩
    · exact hi
    · cases hx
  | (j, c) :: l, h, h', i, hi => by
    simp only [updl]
    refine updl_congr l _ _ i ?_
    by_cases e : i = j
    · subst e; exact .inl (by rw [upd_same, upd_same])
    · rcases hi with hi | ⟨x, hx, hxi⟩
      · exact .inl (by rw [upd_other _ _ _ _ e, upd_other _ _ _ _ e]; exact hi)
      · rcases List.mem_cons.1 hx with rfl | hx
        · exact absurd hxi.symm e
        · exact .inr ⟨x, hx, hxi⟩
structure Res where
  val : AV
  rd : List Nat
  wr : List (Nat × Option Chunk)
/-- operation o, named nid: over slots ρ and memory h it comes to r -/
structure Valid (P : Program) (nid : Nat) (o : Oper) (ρ : Operand → AV) (h : Heap) (r : Res) : Prop where
  run : ∀ (base : Nat → Prop) (σ : Names) (κ : Kw) (h' : Heap) (a : Act) (next : Act → World → Prop) (Q : Exit → Act → World → Prop),
    (∀ x ∈ o.op.operands, (ρ x).p σ κ (a.eval x)) → (∀ i ∈ r.rd, h' i = h i) → HR base σ κ h' → (∀ b, base b → b < κ.w.heap.size) → (∀ x ∈ o.op.operands, ∀ s ∈ (ρ x).sup, s / 8 ≠ nid) →
    (∀ i c, h' i = some c → i / 8 ≠ nid ∧ ∀ s ∈ c.sup, s / 8 ≠ nid) →
    (∀ v σ' (κ' : Kw), κ.le κ' → (∀ b, base b → κ'.own b = κ.own b ∧ κ'.w.heap[b]? = κ.w.heap[b]?) → (∀ i, i / 8 ≠ nid → σ' i = σ i) → r.val.p σ' κ' v → HR base σ' κ' (updl h' r.wr) → next (a.put o.dst v) κ'.w) →
    o.wp P a κ.w next Q
  sup : ∀ U : Nat → Prop, (∀ x ∈ o.op.operands, ∀ s ∈ (ρ x).sup, U s) → (∀ i ∈ r.rd, ∀ c, h i = some c → U i ∧ ∀ s ∈ c.sup, U s) →
    (∀ s ∈ r.val.sup, U s ∨ s / 8 = nid) ∧ ∀ i c, (i, some c) ∈ r.wr → ∀ s ∈ c.sup, U s ∨ s / 8 = nid
  wr : ∀ x ∈ r.wr, (x.1 ∈ r.rd ∧ h x.1 ≠ none) ∨ x.1 / 8 = nid
abbrev Env := Nat → AV
def ρof (env : Env) : Operand → AV
  | .tmp t => env t
  | .const v => Is v
  | .global _ => Any
  | .func f => Is (.func (.func f) #[] #[])
/-- whose frame: a function's own, or a round's -/
def rnd : Option Nat → Fence
  | none => Fence.wide
  | some l => Fence.wide.inRound l
theorem rnd_fn (r : Option Nat) (f : FuncId) : (rnd r).fn f := by cases r <;> trivial
theorem rnd_depth (r : Option Nat) : (rnd r).depth = none := by cases r <;> rfl
theorem rnd_round (r : Option Nat) : (rnd r).round = r := by cases r <;> rfl
theorem callsIn_rnd {r : Option Nat} {n : Nat} {P : Program} {f : FuncId} {args : Array Value} {w : World} {R : Ending → World → Prop} : CallsIn (rnd r) n P f args w R ↔ Calls P f args w R := by
  cases r with
  | none => exact callsIn_wide
  | some l => exact callsIn_wide (n := n)
/-- blocks that none but a round turns -/
def Bd (D : Nat → Prop) (κ : Kw) : Prop := ∀ b, D b → b < κ.w.heap.size ∧ κ.own b ≠ none
def Still (D : Nat → Prop) (κ κ' : Kw) : Prop := ∀ b, D b → κ'.own b = κ.own b ∧ κ'.w.heap[b]? = κ.w.heap[b]?
structure Fix where
  N : Nat
  base : Nat → Prop
  σ0 : Names
  κ0 : Kw
  round : Option Nat
  K : (Nat → Prop) → Kw → Prop
  J : ItC → Nat → (Nat → Prop) → Kw → Prop
  stK : ∀ D κ κ', K D κ → κ.le κ' → Still D κ κ' → K D κ'
  stJ : ∀ I k D κ κ', J I k D κ → κ.le κ' → Still D κ κ' → J I k D κ'
  rd : ∀ l, round = some l → ∀ D κ, K D κ → D l ∧ ∃ r, κ.w.heap[l]? = some (.loop r)
  dfs : List Deferred
def Fix.plain (N : Nat) (base : Nat → Prop) (σ0 : Names) (κ0 : Kw) : Fix := ⟨N, base, σ0, κ0, none, fun _ _ => True, fun _ _ _ _ => False, fun _ _ _ _ _ _ => trivial, fun _ _ _ _ _ h _ _ => h.elim, fun _ h => (by cases h), []⟩
/-- what a call of yield comes to -/
def Fix.ok (P : Program) (X : Fix) : Prop := ∀ I k D κ, Bd D κ → X.K D κ → X.J I k D κ → k < I.n → (∀ j, j < k → I.go j = true) → ∀ vs : List Value, All2 X.σ0 κ (I.vals k) vs → ∀ m, YieldAt Fence.wide m P I.l vs.toArray κ.w fun e w' =>
  ∃ κ' D', e = .returned (.bool (I.go k)) ∧ κ'.w = w' ∧ κ.le κ' ∧ Bd D' κ' ∧ (∀ b, b < κ.w.heap.size → ¬ D b → ¬ D' b ∧ κ'.own b = κ.own b ∧ κ'.w.heap[b]? = κ.w.heap[b]?) ∧ X.K D' κ' ∧ X.J I (k + 1) D' κ'
theorem Fix.ok_plain {P : Program} {X : Fix} (h : ∀ I k D κ, ¬ X.J I k D κ) : X.ok P := fun I k D κ _ _ hj => absurd hj (h I k D κ)
def idxOf (h : Heap) : Option (ItC × Nat) := match h 0 with
  | some (.idx I k) => some (I, k)
  | _ => none
theorem idxOf_congr {h h' : Heap} (e : h' 0 = h 0) : idxOf h' = idxOf h := by unfold idxOf; rw [e]
def mark (r : Nat) : Deferred := { target := .collected r, args := #[] }
structure Prot (X : Fix) (heap : Heap) (ds : List Deferred) (σ : Names) (κ : Kw) (D : Nat → Prop) (ms : List Nat) : Prop where
  bd : Bd D κ
  nb : ∀ b, D b → ¬ X.base b
  far : ∀ i c g, heap i = some c → blk (σ i) = some g → ¬ D g ∧ g ∉ ms
  k : X.K D κ
  j : ∀ I k, idxOf heap = some (I, k) → X.J I k D κ
  ds : ds = ms.map mark ++ X.dfs
  nodup : ms.Nodup
  marks : ∀ r, r ∈ ms → ¬ D r ∧ ¬ X.base r ∧ X.κ0.w.heap.size ≤ r ∧ κ.own r = some 0 ∧ κ.w.heap[r]? = some (.deferred (some []))
theorem Prot.lt {X : Fix} {heap : Heap} {ds : List Deferred} {σ : Names} {κ : Kw} {D : Nat → Prop} {ms : List Nat} (h : Prot X heap ds σ κ D ms) {r : Nat} (hr : r ∈ ms) : r < κ.w.heap.size := (Array.getElem?_eq_some_iff.1 (h.marks r hr).2.2.2.2).1
/-- nothing of it has turned -/
theorem Prot.to {X : Fix} {heap heap' : Heap} {ds : List Deferred} {σ σ' : Names} {κ κ' : Kw} {D : Nat → Prop} {ms : List Nat} (h : Prot X heap ds σ κ D ms) (hle : κ.le κ') (hD : Still D κ κ') (hm : Still (· ∈ ms) κ κ')
    (far : ∀ i c g, heap' i = some c → blk (σ' i) = some g → ¬ D g ∧ g ∉ ms) (hi : ∀ I k, idxOf heap' = some (I, k) → idxOf heap = some (I, k)) : Prot X heap' ds σ' κ' D ms where
  bd := fun b hb => ⟨Nat.lt_of_lt_of_le (h.bd b hb).1 hle.size, by rw [(hD b hb).1]; exact (h.bd b hb).2⟩
  nb := h.nb
  far := far
  k := X.stK _ _ _ h.k hle hD
  j := fun I k e => X.stJ _ _ _ _ _ (h.j I k (hi I k e)) hle hD
  ds := h.ds
  nodup := h.nodup
  marks := fun r hr => by
    obtain ⟨h1, h2, h3, h4, h5⟩ := h.marks r hr
    exact ⟨h1, h2, h3, (hm r hr).1.trans h4, (hm r hr).2.trans h5⟩
theorem Prot.new {X : Fix} {heap : Heap} {ds : List Deferred} {σ : Names} {κ : Kw} {D : Nat → Prop} {ms : List Nat} (h : Prot X heap ds σ κ D ms) {i0 : Nat} {v : Value} {c : Chunk} (hb : blk v = none) (hne : i0 ≠ 0) : Prot X (upd heap i0 (some c)) ds (upd σ i0 v) κ D ms where
  bd := h.bd
  nb := h.nb
  far := fun i d g hd hg => by
    by_cases e : i = i0
    · subst e; rw [upd_same, hb] at hg; cases hg
    · rw [upd_other _ _ _ _ e] at hd hg
      exact h.far i d g hd hg
  k := h.k
  j := fun I k e => h.j I k (by rw [← e]; exact (idxOf_congr (upd_other _ _ _ _ (Ne.symm hne))).symm)
  ds := h.ds
  nodup := h.nodup
  marks := h.marks
theorem Prot.alter {X : Fix} {heap : Heap} {ds : List Deferred} {σ : Names} {κ : Kw} {D : Nat → Prop} {ms : List Nat} (h : Prot X heap ds σ κ D ms) {i0 : Nat} {c c' : Chunk} (hk : heap i0 = some c) (hn : ∀ I k, c' ≠ .idx I k) : Prot X (upd heap i0 (some c')) ds σ κ D ms where
  bd := h.bd
  nb := h.nb
  far := fun i d g hd hg => by
    by_cases e : i = i0
    · subst e; exact h.far i c g hk hg
    · rw [upd_other _ _ _ _ e] at hd
      exact h.far i d g hd hg
  k := h.k
  j := fun I k e => by
    by_cases e0 : 0 = i0
    · subst e0
      cases c' with
      | idx I' k' => exact absurd rfl (hn I' k')
      | _ => simp [idxOf, upd_same] at e
    · exact h.j I k (by rw [← e]; exact (idxOf_congr (upd_other _ _ _ _ e0)).symm)
  ds := h.ds
  nodup := h.nodup
  marks := h.marks
theorem Fix.plain_ok {P : Program} {N : Nat} {base : Nat → Prop} {σ0 : Names} {κ0 : Kw} : (Fix.plain N base σ0 κ0).ok P := Fix.ok_plain fun _ _ _ _ h => h
theorem Prot.plain {N : Nat} {base : Nat → Prop} {σ0 σ : Names} {κ0 κ : Kw} {heap : Heap} (hi : idxOf heap = none) : Prot (Fix.plain N base σ0 κ0) heap [] σ κ (fun _ => False) [] where
  bd := fun _ h => h.elim
  nb := fun _ h => h.elim
  far := fun _ _ _ _ _ => ⟨fun h => h, by simp⟩
  k := trivial
  j := fun I k e => by rw [hi] at e; cases e
  ds := rfl
  nodup := List.nodup_nil
  marks := fun r hr => by cases hr
/-- operation o, named nid, whoever is served: over slots ρ and memory h it comes to r -/
structure VOp (P : Program) (nid : Nat) (o : Oper) (ρ : Operand → AV) (h : Heap) (r : Res) : Prop where
  run : ∀ (X : Fix) (D mk : Nat → Prop) (σ : Names) (κ : Kw) (h' : Heap) (a : Act) (next : Act → World → Prop) (Q : Exit → Act → World → Prop) (n : Nat), X.ok P →
    (∀ x ∈ o.op.operands, (ρ x).p σ κ (a.eval x)) → (∀ i ∈ r.rd, h' i = h i) → HR (fun b => X.base b ∨ D b ∨ mk b) σ κ h' → (∀ b, X.base b ∨ D b ∨ mk b → b < κ.w.heap.size) → Bd D κ → (∀ b, D b → ¬ X.base b ∧ ¬ mk b) → X.K D κ → (∀ I k, idxOf h' = some (I, k) → X.J I k D κ) →
    (∀ x ∈ o.op.operands, ∀ s ∈ (ρ x).sup, s / 8 ≠ nid) → (∀ i c, h' i = some c → i / 8 ≠ nid ∧ ∀ s ∈ c.sup, s / 8 ≠ nid) →
    (∀ v σ' (κ' : Kw) (D' : Nat → Prop), κ.le κ' → (∀ b, X.base b ∨ mk b → κ'.own b = κ.own b ∧ κ'.w.heap[b]? = κ.w.heap[b]?) → Bd D' κ' → (∀ b, D' b → ¬ X.base b ∧ ¬ mk b) → X.K D' κ' → (∀ I k, idxOf (updl h' r.wr) = some (I, k) → X.J I k D' κ') →
      (∀ i, i / 8 ≠ nid → σ' i = σ i) → r.val.p σ' κ' v → HR (fun b => X.base b ∨ D' b ∨ mk b) σ' κ' (updl h' r.wr) → next (a.put o.dst v) κ'.w) →
    o.wpIn (rnd X.round) n P a κ.w next Q
  sup : ∀ U : Nat → Prop, (∀ x ∈ o.op.operands, ∀ s ∈ (ρ x).sup, U s) → (∀ i ∈ r.rd, ∀ c, h i = some c → U i ∧ ∀ s ∈ c.sup, U s) →
    (∀ s ∈ r.val.sup, U s ∨ s / 8 = nid) ∧ ∀ i c, (i, some c) ∈ r.wr → ∀ s ∈ c.sup, U s ∨ s / 8 = nid
  wr : ∀ x ∈ r.wr, (x.1 ∈ r.rd ∧ h x.1 ≠ none) ∨ x.1 / 8 = nid
/-- no deferring, and nothing of the rounds' count -/
def calmB (o : Oper) (r : Res) : Bool := (match o.op with | .defer _ => false | _ => true) && r.wr.all fun x => !Nat.beq x.1 0
theorem wp_rnd {P : Program} {o : Oper} {a : Act} {w : World} {K : Act → World → Prop} {Q : Exit → Act → World → Prop} (hd : ∀ c, o.op ≠ .defer c) (h : o.wp P a w K Q) (r : Option Nat) (n : Nat) : o.wpIn (rnd r) n P a w K Q := by
  refine ⟨fun f _ => rnd_fn r f, ?_⟩
  rw [rnd_round, Oper.semAt_eq _ _ _ hd]
  unfold Oper.wp at h
  have hdep : (rnd r).depth.isSome = true → 1 ≤ n := fun e => by rw [rnd_depth] at e; cases e
  generalize (execOp a.eval o).run P w = res at h ⊢
  match res, h with
  | .ok (.value v) w', h => exact h
  | .ok .skip w', h => exact h
  | .ok (.defer d) w', h => exact h
  | .ok (.enter f args) w', h => exact ⟨hdep, callsIn_rnd.2 (Calls.mono h fun e w'' he => by cases e <;> exact he)⟩
  | .ok (.row row args) w', h =>
    refine ⟨hdep, fun c cs _ => ?_⟩
    obtain ⟨v, w'', h1, h2⟩ := h c cs
    refine ⟨v, w'', h1, ?_⟩
    cases r with
    | none => exact stepsIn_wide.2 h2
    | some l => exact stepsIn_wide.2 h2
  | .halt (.panic v) w', h => exact h
theorem updl_zero : ∀ (l : List (Nat × Option Chunk)) (h : Heap), (l.all fun x => !Nat.beq x.1 0) = true → updl h l 0 = h 0 := fun l h hl => updl_out l h 0 fun x hx e => by
  have := List.all_eq_true.1 hl x hx
  rw [e] at this; simp at this
theorem Valid.up {P : Program} {nid : Nat} {o : Oper} {ρ : Operand → AV} {h : Heap} {r : Res} (hv : Valid P nid o ρ h r) (hz : calmB o r = true) : VOp P nid o ρ h r where
  sup := hv.sup
  wr := hv.wr
  run := fun X D mk σ κ h' a next Q n _ hops hrd hr hb hbd hdd hk hj hsn hfr hnext => by
    simp only [calmB, Bool.and_eq_true] at hz
    have hd : ∀ c, o.op ≠ .defer c := fun c e => by rw [e] at hz; simp at hz
    refine wp_rnd hd (hv.run _ σ κ h' a next Q hops hrd hr hb hsn hfr fun v σ' κ' hle hold hσ hval hhr => ?_) _ n
    have hD : Still D κ κ' := fun b hb' => hold b (.inr (.inl hb'))
    refine hnext v σ' κ' D hle (fun b hb' => hold b (hb'.elim .inl fun h => .inr (.inr h))) (fun b hb' => ⟨Nat.lt_of_lt_of_le (hbd b hb').1 hle.size, by rw [(hD b hb').1]; exact (hbd b hb').2⟩) hdd (X.stK _ _ _ hk hle hD) (fun I k e => X.stJ _ _ _ _ _ (hj I k ?_) hle hD) hσ hval hhr
    rw [idxOf_congr (updl_zero r.wr h' hz.2)] at e
    exact e
def GValid (P : Program) (nid : Nat) (ops : Array Oper) (o : Oper) (env : Env) (h : Heap) (r : Res) : Prop :=
  match o.guard with
  | none => VOp P nid o (ρof env) h r
  | some (j, want) => ∃ (d : Nat) (g : Prop), (ops[j]?).bind (·.dst) = some d ∧ Grd (env d) want g ∧
    ((g ∧ VOp P nid o (ρof env) h r) ∨ (¬ g ∧ r = ⟨Is undef, [], []⟩) ∨
      ∃ A rd env', (g → VOp P nid o (ρof env') h ⟨A, rd, []⟩ ∧ ∀ t, Operand.tmp t ∈ o.op.operands → (∀ σ κ v, (env t).p σ κ v → (env' t).p σ κ v) ∧ ∀ s ∈ (env' t).sup, s ∈ (env t).sup) ∧ (∀ s ∈ A.sup, ∃ t, Operand.tmp t ∈ o.op.operands ∧ s ∈ (env t).sup) ∧ r = ⟨Cnd g A, rd, []⟩)
def putE (env : Env) : Option Tmp → AV → Env
  | none, _ => env
  | some d, A => upd env d A
structure RK (X : Fix) (used : Nat → Prop) (env : Env) (heap : Heap) (a : Act) (σ : Names) (κ : Kw) : Prop where
  tmps : a.tmps.size = X.N
  base : ∀ b, X.base b → b < κ.w.heap.size
  pin : ∀ i, i < 8 → σ i = X.σ0 i
  env_ : ∀ t, (env t).p σ κ (a.tmps.getD t undef)
  hr : HR X.base σ κ heap
  le0 : X.κ0.le κ
  old : ∀ b, X.base b → κ.own b = X.κ0.own b ∧ κ.w.heap[b]? = X.κ0.w.heap[b]?
  sup : ∀ t, ∀ s ∈ (env t).sup, used s
  hsup : ∀ i c, heap i = some c → used i ∧ ∀ s ∈ c.sup, used s
  prot : ∃ D ms, Prot X heap a.defers σ κ D ms
def R (X : Fix) (used : Nat → Prop) (env : Env) (heap : Heap) (a : Act) (w : World) : Prop := ∃ σ κ, κ.w = w ∧ RK X used env heap a σ κ
theorem RK.eval {X : Fix} {used : Nat → Prop} {env : Env} {heap : Heap} {a : Act} {σ : Names} {κ : Kw} (h : RK X used env heap a σ κ) (x : Operand) : (ρof env x).p σ κ (a.eval x) := by
  cases x with
  | tmp t => exact h.env_ t
  | const v => rfl
  | global g => trivial
  | func f => rfl
theorem put_getD (a : Act) (dst : Option Tmp) (v : Value) (t : Nat) (hd : ∀ d, dst = some d → d < a.tmps.size) : (a.put dst v).tmps.getD t undef = if dst = some t then v else a.tmps.getD t undef := by
  cases dst with
  | none => simp [Act.put]
  | some d =>
    have := hd d rfl
    simp only [Act.put, Array.getD_eq_getD_getElem?, Array.getElem?_setIfInBounds]
    by_cases e : d = t
    · subst e; simp [this]
    · simp [e]
theorem put_size (a : Act) (dst : Option Tmp) (v : Value) : (a.put dst v).tmps.size = a.tmps.size := by cases dst <;> simp [Act.put]
theorem put_defers (a : Act) (dst : Option Tmp) (v : Value) : (a.put dst v).defers = a.defers := by cases dst <;> simp [Act.put]
theorem putE_eq (env : Env) (dst : Option Tmp) (A : AV) (t : Nat) : putE env dst A t = if dst = some t then A else env t := by
  cases dst with
  | none => simp [putE]
  | some d =>
    by_cases e : d = t
    · subst e; simp [putE, upd_same]
    · simp [putE, upd_other _ _ _ _ (fun h => e h.symm), e]
theorem RK.put {X : Fix} {used : Nat → Prop} {env : Env} {heap : Heap} {a : Act} {σ : Names} {κ : Kw} (h : RK X used env heap a σ κ) (dst : Option Tmp) (hd : ∀ d, dst = some d → d < X.N) (v : Value) (A : AV) (hA : A.p σ κ v) (hs : ∀ s ∈ A.sup, used s) :
    RK X used (putE env dst A) heap (a.put dst v) σ κ := by
  refine { h with tmps := by rw [put_size]; exact h.tmps, prot := by rw [put_defers]; exact h.prot, env_ := fun t => ?_, sup := fun t s => ?_ }
  · rw [put_getD _ _ _ _ (fun d hd' => by rw [h.tmps]; exact hd d hd'), putE_eq]
    split
    · exact hA
    · exact h.env_ t
  · rw [putE_eq]
    split
    · exact hs s
    · exact h.sup t s
/-- one operation, carried out -/
theorem step {P : Program} {X : Fix} {used : Nat → Prop} {env env0 : Env} {heap heap0 : Heap} {a : Act} {w : World} {nid : Nat} {o : Oper} {r : Res} {Q : Exit → Act → World → Prop} (hok : X.ok P) (n : Nat)
    (h : R X used env heap a w) (h1n : 1 ≤ nid) (hn : ∀ s, used s → s / 8 ≠ nid) (hv : VOp P nid o (ρof env0) heap0 r) (he : ∀ t, Operand.tmp t ∈ o.op.operands → (∀ σ κ v, (env t).p σ κ v → (env0 t).p σ κ v) ∧ ∀ s ∈ (env0 t).sup, s ∈ (env t).sup) (hh : ∀ i ∈ r.rd, heap i = heap0 i) (hd : ∀ d, o.dst = some d → d < X.N) :
    o.wpIn (rnd X.round) n P a w (fun a' w' => R X (fun s => used s ∨ s / 8 = nid) (putE env o.dst r.val) (updl heap r.wr) a' w') Q := by
  obtain ⟨σ, κ, rfl, h⟩ := h
  obtain ⟨D, ms, hp⟩ := h.prot
  have hρ : ∀ x ∈ o.op.operands, (∀ σ κ v, (ρof env x).p σ κ v → (ρof env0 x).p σ κ v) ∧ ∀ s ∈ (ρof env0 x).sup, s ∈ (ρof env x).sup := fun x hx => by
    cases x with
    | tmp t => exact he t hx
    | _ => exact ⟨fun _ _ _ h => h, fun _ h => h⟩
  refine hv.run X D (· ∈ ms) σ κ heap a _ Q n hok (fun x hx => (hρ x hx).1 _ _ _ (h.eval x)) hh ⟨h.hr.at_, h.hr.far, fun i c g hc hg hb => by
      rcases hb with hb | hb | hb
      · exact h.hr.base i c g hc hg hb
      · exact (hp.far i c g hc hg).1 hb
      · exact (hp.far i c g hc hg).2 hb⟩ (fun b hb => by
      rcases hb with hb | hb | hb
      · exact h.base b hb
      · exact (hp.bd b hb).1
      · exact hp.lt hb) hp.bd (fun b hb => ⟨hp.nb b hb, fun hm => (hp.marks b hm).1 hb⟩) hp.k hp.j (fun x hx s hs => by
      replace hs := (hρ x hx).2 s hs
      cases x with
      | tmp t => exact hn s (h.sup t s hs)
      | const v => cases hs
      | global v => cases hs
      | func v => cases hs) (fun i c hc => ⟨hn i (h.hsup i c hc).1, fun s hs => hn s ((h.hsup i c hc).2 s hs)⟩) ?_
  intro v σ' κ' D' hle hold hbd' hdd' hk' hj' hσ hval hhr'
  have hb : ∀ b, X.base b → κ'.own b = κ.own b ∧ κ'.w.heap[b]? = κ.w.heap[b]? := fun b h => hold b (.inl h)
  have hhr : HR X.base σ' κ' (updl heap r.wr) := ⟨hhr'.at_, hhr'.far, fun i c g hc hg hb => hhr'.base i c g hc hg (.inl hb)⟩
  have hprot : Prot X (updl heap r.wr) a.defers σ' κ' D' ms := ⟨hbd', fun b hb => (hdd' b hb).1, fun i c g hc hg => ⟨fun hb => hhr'.base i c g hc hg (.inr (.inl hb)), fun hb => hhr'.base i c g hc hg (.inr (.inr hb))⟩, hk', hj', hp.ds, hp.nodup, fun m hm => by
    obtain ⟨h1, h2, h3, h4, h5⟩ := hp.marks m hm
    have := hold m (.inr hm)
    exact ⟨fun hb => (hdd' m hb).2 hm, h2, h3, this.1.trans h4, this.2.trans h5⟩⟩
  obtain ⟨s1, s2⟩ := hv.sup used (fun x hx s hs => by
      replace hs := (hρ x hx).2 s hs
      cases x with
      | tmp t => exact h.sup t s hs
      | const v => cases hs
      | global v => cases hs
      | func v => cases hs) (fun i hi c hc => by rw [← hh i hi] at hc; exact h.hsup i c hc)
  have hsup : ∀ i c, updl heap r.wr i = some c → (used i ∨ i / 8 = nid) ∧ ∀ s ∈ c.sup, used s ∨ s / 8 = nid := by
    have key : ∀ (l : List (Nat × Option Chunk)) (g : Heap), (∀ x ∈ l, x ∈ r.wr) → (∀ i c, g i = some c → (used i ∨ i / 8 = nid) ∧ ∀ s ∈ c.sup, used s ∨ s / 8 = nid) → ∀ i c, updl g l i = some c → (used i ∨ i / 8 = nid) ∧ ∀ s ∈ c.sup, used s ∨ s / 8 = nid := by
      intro l
      induction l with
      | nil => intro g _ hg; exact hg
      | cons x l ih =>
        obtain ⟨j, c0⟩ := x
        intro g hl hg
        refine ih _ (fun x hx => hl x (by simp [hx])) (fun i c hc => ?_)
        by_cases e : i = j
        · subst e
          rw [upd_same] at hc
          subst hc
          refine ⟨?_, s2 i c (hl _ (by simp))⟩
          rcases hv.wr (i, some c) (hl _ (by simp)) with hw | hw
          · have hne : heap i ≠ none := by rw [hh i hw.1]; exact hw.2
            cases hc1 : heap i with
            | none => exact absurd hc1 hne
            | some c1 => exact .inl (h.hsup i c1 hc1).1
          · exact .inr hw
        · rw [upd_other _ _ _ _ e] at hc
          exact hg i c hc
    exact key r.wr heap (fun _ hx => hx) (fun i c hc => ⟨.inl (h.hsup i c hc).1, fun s hs => .inl ((h.hsup i c hc).2 s hs)⟩)
  refine ⟨σ', κ', rfl, ?_⟩
  have h2 : RK X (fun s => used s ∨ s / 8 = nid) env (updl heap r.wr) a σ' κ' :=
    { tmps := h.tmps, prot := ⟨D', ms, hprot⟩, base := fun b hb => Nat.lt_of_lt_of_le (h.base b hb) hle.size
      pin := fun i hi => (hσ i (by omega)).trans (h.pin i hi)
      env_ := fun t => (env t).mono hle ((env t).loc (fun i hi => hσ i (hn i (h.sup t i hi))) (h.env_ t))
      hr := hhr, le0 := Kw.le_trans h.le0 hle
      old := fun b hb' => ⟨(hb b hb').1.trans (h.old b hb').1, (hb b hb').2.trans (h.old b hb').2⟩
      sup := fun t s hs => .inl (h.sup t s hs), hsup := hsup }
  exact h2.put o.dst hd v r.val hval s1
end Ab
end Go.Proofs.Ytdcenocljnlipaa

namespace Go.Proofs.Ytdcenocljnlipaa
open Go.RowKit
namespace Ab
/-- the operations from number k on, in the order of the text -/
def Runs (P : Program) (N c : Nat) (ops : Array Oper) : Nat → List Oper → Env → Heap → (List Res → Env → Heap → Prop) → Prop
  | _, [], env, heap, K => K [] env heap
  | k, o :: os, env, heap, K => ∃ r, GValid P (c + k) ops o env heap r ∧ (o.dst.all (fun d => decide (d < N))) = true ∧ Runs P N c ops (k + 1) os (putE env o.dst r.val) (updl heap r.wr) (fun rs => K (r :: rs))
/-- states by what is listed -/
def E (ops : Array Oper) (rs : List Res) (env : Env) (L : Nat → Bool) : Nat → Env
  | 0 => env
  | k + 1 => match ops[k]?, rs[k]? with
    | some o, some r => bif L k then putE (E ops rs env L k) o.dst r.val else E ops rs env L k
    | _, _ => E ops rs env L k
def H (rs : List Res) (heap : Heap) (L : Nat → Bool) : Nat → Heap
  | 0 => heap
  | k + 1 => match rs[k]? with
    | some r => bif L k then updl (H rs heap L k) r.wr else H rs heap L k
    | _ => H rs heap L k
/-- what is known of a region by its text -/
structure Indep (ops : Array Oper) (rs : List Res) where
  ordered : Nat → Nat → Prop
  n : Nat
  size : ops.size = n
  len : rs.length = n
  /-- j is ahead of k by the edges: who has k has j -/
  down : ∀ (D : Nat → Bool), (∀ k o, ops[k]? = some o → D k = true → ∀ e ∈ o.after, Region.binds .any e = true → D e.on = true) → ∀ j k, k < n → ordered j k → D k = true → D j = true
  edge : ∀ k o, ops[k]? = some o → ∀ e ∈ o.after, Region.binds .any e = true → e.on < k
  pair : ∀ j k oj ok rj rk, j < k → ops[j]? = some oj → ops[k]? = some ok → rs[j]? = some rj → rs[k]? = some rk → ordered j k ∨
    ((∀ d, oj.dst = some d → d ∉ ok.looksAt ops ∧ ok.dst ≠ some d) ∧ (∀ d, ok.dst = some d → d ∉ oj.looksAt ops) ∧
     (∀ x ∈ rj.wr, x.1 ∉ rk.rd ∧ ∀ y ∈ rk.wr, y.1 ≠ x.1) ∧ (∀ y ∈ rk.wr, y.1 ∉ rj.rd))
  grd : ∀ (k : Nat) (o : Oper), ops[k]? = some o → ∀ (j : Nat) (want : Bool), o.guard = some (j, want) → ∀ d : Nat, (ops[j]?).bind (·.dst) = some d → d ∈ o.looksAt ops
theorem E_env {ops : Array Oper} {rs : List Res} (I : Indep ops rs) (env : Env) (L : Nat → Bool) (hL : ∀ k o, ops[k]? = some o → L k = true → ∀ e ∈ o.after, Region.binds .any e = true → L e.on = true)
    {i : Nat} {o : Oper} {r : Res} (ho : ops[i]? = some o) (hr : rs[i]? = some r) (hi : L i = false) (hpre : ∀ e ∈ o.after, Region.binds .any e = true → L e.on = true) (t : Nat) (ht : t ∈ o.looksAt ops) :
    ∀ m, m ≤ I.n → E ops rs env L m t = E ops rs env (fun _ => true) (min m i) t := by
  have hin : i < I.n := by rw [← I.size]; exact (Array.getElem?_eq_some_iff.1 ho).1
  have hD : ∀ j, I.ordered j i → j ≠ i → L j = true := fun j hj hne => by
    have := I.down (fun k => L k || Nat.beq k i) (fun k ok hk hk' e he hb => by
      simp only [Bool.or_eq_true] at hk' ⊢
      rcases hk' with hk' | hk'
      · exact .inl (hL k ok hk hk' e he hb)
      · have : k = i := Nat.eq_of_beq_eq_true hk'
        subst this
        rw [ho] at hk; cases hk
        exact .inl (hpre e he hb)) j i hin hj (by simp)
    simp only [Bool.or_eq_true] at this
    rcases this with h | h
    · exact h
    · exact absurd (Nat.eq_of_beq_eq_true h) hne
  intro m
  induction m with
  | zero => intro _; simp [E]
  | succ k ih =>
    intro hm
    have ih := ih (by omega)
    obtain ⟨ok, hok⟩ : ∃ ok, ops[k]? = some ok := ⟨_, Array.getElem?_eq_getElem (by rw [I.size]; omega)⟩
    obtain ⟨rk, hrk⟩ : ∃ rk, rs[k]? = some rk := ⟨_, List.getElem?_eq_getElem (by rw [I.len]; omega)⟩
    by_cases hk : k < i
    · have e1 : min (k + 1) i = k + 1 := by omega
      have e2 : min k i = k := by omega
      rw [e1]; rw [e2] at ih
      simp only [E, hok, hrk]
      · simp only [cond_true]
        cases hLk : L k with
        | true =>
          simp only [cond_true]
          rw [putE_eq, putE_eq, ih]
        | false =>
          simp only [cond_false]
          rw [putE_eq, ih]
          rcases I.pair k i ok o rk r hk hok ho hrk hr with h | h
          · have := hD k h (by omega)
            rw [this] at hLk; cases hLk
          · rw [if_neg (fun hd => (h.1 t hd).1 ht)]
    · have e1 : min (k + 1) i = i := by omega
      have e2 : min k i = i := by omega
      rw [e1]; rw [e2] at ih
      simp only [E, hok, hrk]
      · cases hLk : L k with
        | true =>
          simp only [cond_true]
          have hki : k ≠ i := fun e => by subst e; rw [hi] at hLk; cases hLk
          rw [putE_eq, ih]
          rcases I.pair i k o ok r rk (by omega) ho hok hr hrk with h | h
          · have := I.down L hL i k (by rw [← I.size]; exact (Array.getElem?_eq_some_iff.1 hok).1) h hLk
            rw [this] at hi; cases hi
          · rw [if_neg (fun hd => h.2.1 t hd ht)]
        | false => simp only [cond_false]; exact ih
theorem H_heap {ops : Array Oper} {rs : List Res} (I : Indep ops rs) (heap : Heap) (L : Nat → Bool) (hL : ∀ k o, ops[k]? = some o → L k = true → ∀ e ∈ o.after, Region.binds .any e = true → L e.on = true)
    {i : Nat} {o : Oper} {r : Res} (ho : ops[i]? = some o) (hr : rs[i]? = some r) (hi : L i = false) (hpre : ∀ e ∈ o.after, Region.binds .any e = true → L e.on = true) (t : Nat) (ht : t ∈ r.rd) :
    ∀ m, m ≤ I.n → H rs heap L m t = H rs heap (fun _ => true) (min m i) t := by
  have hin : i < I.n := by rw [← I.size]; exact (Array.getElem?_eq_some_iff.1 ho).1
  have hD : ∀ j, I.ordered j i → j ≠ i → L j = true := fun j hj hne => by
    have := I.down (fun k => L k || Nat.beq k i) (fun k ok hk hk' e he hb => by
      simp only [Bool.or_eq_true] at hk' ⊢
      rcases hk' with hk' | hk'
      · exact .inl (hL k ok hk hk' e he hb)
      · have : k = i := Nat.eq_of_beq_eq_true hk'
        subst this
        rw [ho] at hk; cases hk
        exact .inl (hpre e he hb)) j i hin hj (by simp)
    simp only [Bool.or_eq_true] at this
    rcases this with h | h
    · exact h
    · exact absurd (Nat.eq_of_beq_eq_true h) hne
  intro m
  induction m with
  | zero => intro _; simp [H]
  | succ k ih =>
    intro hm
    have ih := ih (by omega)
    obtain ⟨ok, hok⟩ : ∃ ok, ops[k]? = some ok := ⟨_, Array.getElem?_eq_getElem (by rw [I.size]; omega)⟩
    obtain ⟨rk, hrk⟩ : ∃ rk, rs[k]? = some rk := ⟨_, List.getElem?_eq_getElem (by rw [I.len]; omega)⟩
    by_cases hk : k < i
    · have e1 : min (k + 1) i = k + 1 := by omega
      have e2 : min k i = k := by omega
      rw [e1]; rw [e2] at ih
      simp only [H, hrk]
      · simp only [cond_true]
        cases hLk : L k with
        | true =>
          simp only [cond_true]
          exact updl_congr _ _ _ _ (.inl ih)
        | false =>
          simp only [cond_false]
          rcases I.pair k i ok o rk r hk hok ho hrk hr with h | h
          · have := hD k h (by omega)
            rw [this] at hLk; cases hLk
          · rw [updl_out _ _ _ (fun x hx e => (h.2.2.1 x hx).1 (by rw [e]; exact ht))]; exact ih
    · have e1 : min (k + 1) i = i := by omega
      have e2 : min k i = i := by omega
      rw [e1]; rw [e2] at ih
      simp only [H, hrk]
      · cases hLk : L k with
        | true =>
          simp only [cond_true]
          have hki : k ≠ i := fun e => by subst e; rw [hi] at hLk; cases hLk
          rcases I.pair i k o ok r rk (by omega) ho hok hr hrk with h | h
          · have := I.down L hL i k (by omega) h hLk
            rw [this] at hi; cases hi
          · rw [updl_out _ _ _ (fun x hx e => h.2.2.2 x hx (by rw [e]; exact ht))]; exact ih
        | false => simp only [cond_false]; exact ih
/-- listing one more -/
def lst (L : Nat → Bool) (i : Nat) : Nat → Bool := fun k => L k || Nat.beq k i
theorem lst_same (L : Nat → Bool) (i : Nat) : lst L i i = true := by simp [lst]
theorem lst_other (L : Nat → Bool) (i k : Nat) (h : k ≠ i) : lst L i k = L k := by
  have : Nat.beq k i = false := by
    cases hb : Nat.beq k i with
    | true => exact absurd (Nat.eq_of_beq_eq_true hb) h
    | false => rfl
  simp [lst, this]
theorem E_put {ops : Array Oper} {rs : List Res} (I : Indep ops rs) (env : Env) (L : Nat → Bool) (hL : ∀ k o, ops[k]? = some o → L k = true → ∀ e ∈ o.after, Region.binds .any e = true → L e.on = true)
    {i : Nat} {o : Oper} {r : Res} (ho : ops[i]? = some o) (hr : rs[i]? = some r) (hi : L i = false) :
    ∀ m, m ≤ I.n → E ops rs env (lst L i) m = if i < m then putE (E ops rs env L m) o.dst r.val else E ops rs env L m := by
  intro m
  induction m with
  | zero => intro _; simp [E]
  | succ k ih =>
    intro hm
    have ih := ih (by omega)
    obtain ⟨ok, hok⟩ : ∃ ok, ops[k]? = some ok := ⟨_, Array.getElem?_eq_getElem (by rw [I.size]; omega)⟩
    obtain ⟨rk, hrk⟩ : ∃ rk, rs[k]? = some rk := ⟨_, List.getElem?_eq_getElem (by rw [I.len]; omega)⟩
    simp only [E, hok, hrk]
    by_cases hki : k = i
    · subst hki
      rw [ho] at hok; cases hok
      rw [hr] at hrk; cases hrk
      rw [lst_same, hi, cond_true, cond_false, ih, if_neg (by omega), if_pos (by omega)]
    · rw [lst_other _ _ _ hki]
      cases hLk : L k with
      | false =>
        simp only [cond_false]
        rw [ih]
        by_cases h1 : i < k
        · rw [if_pos h1, if_pos (by omega)]
        · rw [if_neg h1, if_neg (by omega)]
      | true =>
        simp only [cond_true]
        rw [ih]
        by_cases h1 : i < k
        · rw [if_pos h1, if_pos (by omega)]
          funext t
          rw [putE_eq, putE_eq, putE_eq, putE_eq]
          rcases I.pair i k o ok r rk h1 ho hok hr hrk with h | h
          · have := I.down L hL i k (by omega) h hLk
            rw [this] at hi; cases hi
          · by_cases h2 : o.dst = some t
            · rw [if_pos h2, if_neg (h.1 t h2).2, if_pos h2]
            · rw [if_neg h2, if_neg h2]
        · rw [if_neg h1, if_neg (by omega)]
theorem updl_comm (l m : List (Nat × Option Chunk)) (h : Heap) (hd : ∀ x ∈ l, ∀ y ∈ m, y.1 ≠ x.1) : updl (updl h l) m = updl (updl h m) l := by
  funext t
  by_cases h1 : ∃ x ∈ l, x.1 = t
  · obtain ⟨x, hx, hxt⟩ := h1
    rw [updl_out m _ t (fun y hy e => hd x hx y hy (e.trans hxt.symm))]
    exact updl_congr _ _ _ _ (.inr ⟨x, hx, hxt⟩)
  · have h1' : ∀ x ∈ l, x.1 ≠ t := fun x hx e => h1 ⟨x, hx, e⟩
    rw [updl_out l _ t h1']
    exact updl_congr _ _ _ _ (.inl (updl_out l _ t h1'))
theorem H_put {ops : Array Oper} {rs : List Res} (I : Indep ops rs) (heap : Heap) (L : Nat → Bool) (hL : ∀ k o, ops[k]? = some o → L k = true → ∀ e ∈ o.after, Region.binds .any e = true → L e.on = true)
    {i : Nat} {o : Oper} {r : Res} (ho : ops[i]? = some o) (hr : rs[i]? = some r) (hi : L i = false) :
    ∀ m, m ≤ I.n → H rs heap (lst L i) m = if i < m then updl (H rs heap L m) r.wr else H rs heap L m := by
  intro m
  induction m with
  | zero => intro _; simp [H]
  | succ k ih =>
    intro hm
    have ih := ih (by omega)
    obtain ⟨ok, hok⟩ : ∃ ok, ops[k]? = some ok := ⟨_, Array.getElem?_eq_getElem (by rw [I.size]; omega)⟩
    obtain ⟨rk, hrk⟩ : ∃ rk, rs[k]? = some rk := ⟨_, List.getElem?_eq_getElem (by rw [I.len]; omega)⟩
    simp only [H, hrk]
    by_cases hki : k = i
    · subst hki
      rw [ho] at hok; cases hok
      rw [hr] at hrk; cases hrk
      rw [lst_same, hi, cond_true, cond_false, ih, if_neg (by omega), if_pos (by omega)]
    · rw [lst_other _ _ _ hki]
      cases hLk : L k with
      | false =>
        simp only [cond_false]
        rw [ih]
        by_cases h1 : i < k
        · rw [if_pos h1, if_pos (by omega)]
        · rw [if_neg h1, if_neg (by omega)]
      | true =>
        simp only [cond_true]
        rw [ih]
        by_cases h1 : i < k
        · rw [if_pos h1, if_pos (by omega)]
          rcases I.pair i k o ok r rk h1 ho hok hr hrk with h | h
          · have := I.down L hL i k (by omega) h hLk
            rw [this] at hi; cases hi
          · exact updl_comm _ _ _ (fun x hx y hy => (h.2.2.1 x hx).2 y hy)
        · rw [if_neg h1, if_neg (by omega)]
theorem RK.more {X : Fix} {used used' : Nat → Prop} {env : Env} {heap : Heap} {a : Act} {σ : Names} {κ : Kw} (h : RK X used env heap a σ κ) (hu : ∀ s, used s → used' s) : RK X used' env heap a σ κ :=
  { h with sup := fun t s hs => hu s (h.sup t s hs), hsup := fun i c hc => ⟨hu i (h.hsup i c hc).1, fun s hs => hu s ((h.hsup i c hc).2 s hs)⟩ }
/-- one operation of a region, with its guard -/
theorem gstep {P : Program} {X : Fix} {used : Nat → Prop} {env env0 : Env} {heap heap0 : Heap} {a : Act} {w : World} {nid : Nat} {ops : Array Oper} {o : Oper} {r : Res} {Q : Exit → Act → World → Prop} {K : Act → World → Prop} (hok : X.ok P) (n : Nat)
    (h : R X used env heap a w) (h1n : 1 ≤ nid) (hn : ∀ s, used s → s / 8 ≠ nid) (hv : GValid P nid ops o env0 heap0 r) (he : ∀ t ∈ o.looksAt ops, env t = env0 t) (hh : ∀ i ∈ r.rd, heap i = heap0 i) (hd : ∀ d, o.dst = some d → d < X.N)
    (hg : ∀ (j : Nat) (want : Bool), o.guard = some (j, want) → ∀ d : Nat, (ops[j]?).bind (·.dst) = some d → d ∈ o.looksAt ops)
    (hK : ∀ a' w', R X (fun s => used s ∨ s / 8 = nid) (putE env o.dst r.val) (updl heap r.wr) a' w' → K a' w') :
    if Region.wanted o (yielded ops a.tmps) then o.wpIn (rnd X.round) n P a w K Q else (∀ f, o.about P w a.eval = some f → (rnd X.round).fn f) ∧ K (a.put o.dst undef) w := by
  have hops : ∀ t, Operand.tmp t ∈ o.op.operands → env t = env0 t := fun t ht => he t (List.mem_append_left _ (List.mem_filterMap.2 ⟨.tmp t, by simpa using ht, rfl⟩))
  have hops' : ∀ t, Operand.tmp t ∈ o.op.operands → (∀ σ κ v, (env t).p σ κ v → (env0 t).p σ κ v) ∧ ∀ s ∈ (env0 t).sup, s ∈ (env t).sup := fun t ht => by rw [hops t ht]; exact ⟨fun _ _ _ h => h, fun _ h => h⟩
  unfold GValid at hv
  split at hv
  · rename_i hgd
    rw [if_pos (by simp [Region.wanted, hgd])]
    exact Oper.wpIn_mono hK (step hok n h h1n hn hv hops' hh hd)
  · rename_i j want hgd
    obtain ⟨d, g, hdj, hβ, hv⟩ := hv
    have h1 : (env d).p _ _ _ := h.choose_spec.choose_spec.2.env_ d
    rw [he d (hg j want hgd d hdj)] at h1
    obtain ⟨hg1, hg2⟩ := hβ _ _ _ h1
    have hwant : Region.wanted o (yielded ops a.tmps) = true ↔ a.tmps.getD d undef = .bool want := by
      simp only [Region.wanted, hgd]
      unfold yielded
      rw [hdj]
      simp only [Option.bind_some]
      rw [Array.getD_eq_getD_getElem?]
      cases ht : a.tmps[d]? with
      | none => simp [undef]
      | some u =>
        cases u <;> simp
    rcases hv with ⟨hgg, hv⟩ | ⟨hne, rfl⟩ | ⟨A, rd, env', hv, hsup, rfl⟩
    · rw [if_pos (hwant.2 (hg1 hgg))]
      exact Oper.wpIn_mono hK (step hok n h h1n hn hv hops' hh hd)
    · rw [if_neg (fun e => hg2 hne (hwant.1 e))]
      refine ⟨fun f _ => rnd_fn _ f, hK _ _ ?_⟩
      obtain ⟨σ, κ, rfl, h⟩ := h
      exact ⟨σ, κ, rfl, (h.put o.dst hd undef (Is undef) rfl (fun s hs => by cases hs)).more fun s hs => .inl hs⟩
    · by_cases hb : g
      · rw [if_pos (hwant.2 (hg1 hb))]
        obtain ⟨hv, henv⟩ := hv hb
        refine Oper.wpIn_mono (fun a' w' hR => hK a' w' ?_) (step hok n h h1n hn hv (fun t ht => by rw [hops t ht]; exact henv t ht) hh hd)
        obtain ⟨σ, κ, rfl, hR⟩ := hR
        refine ⟨σ, κ, rfl, { hR with env_ := fun t => ?_, sup := fun t s hs => ?_ }⟩
        · have h1 := hR.env_ t
          rw [putE_eq] at h1 ⊢
          split
          · rename_i ht; rw [if_pos ht] at h1; exact ⟨fun _ => h1, fun hnb => absurd hb hnb⟩
          · rename_i ht; rw [if_neg ht] at h1; exact h1
        · have h1 := hR.sup t s
          rw [putE_eq] at hs h1
          split at hs
          · rename_i ht; rw [if_pos ht] at h1; exact h1 hs
          · rename_i ht; rw [if_neg ht] at h1; exact h1 hs
      · rw [if_neg (fun e => hg2 hb (hwant.1 e))]
        refine ⟨fun f _ => rnd_fn _ f, hK _ _ ?_⟩
        obtain ⟨σ, κ, rfl, h⟩ := h
        exact ⟨σ, κ, rfl, (h.put o.dst hd undef (Cnd g A) ⟨fun hb' => absurd hb' hb, fun _ => rfl⟩ (fun s hs => by
          obtain ⟨t, ht, hst⟩ := hsup s hs
          rw [← hops t ht] at hst
          exact h.sup t s hst)).more fun s hs => .inl hs⟩
/-- the operations one behind the other -/
theorem runs_plain {P : Program} {X : Fix} {c : Nat} {ops : Array Oper} {Q : Exit → Act → World → Prop} (hok : X.ok P) (n : Nat) (hc1 : 1 ≤ c) (hg : ∀ (k : Nat) (o : Oper), ops[k]? = some o → ∀ (j : Nat) (want : Bool), o.guard = some (j, want) → ∀ d : Nat, (ops[j]?).bind (·.dst) = some d → d ∈ o.looksAt ops) :
    ∀ (l : List Oper) (k : Nat) (env : Env) (heap : Heap) (K : List Res → Env → Heap → Prop) (a : Act) (w : World), (∀ j, l[j]? = ops[k + j]?) → Runs P X.N c ops k l env heap K → R X (fun s => s / 8 < c + k) env heap a w →
    (∀ rs env' heap' a' w', K rs env' heap' → R X (fun s => s / 8 < c + k + l.length) env' heap' a' w' → Q .normal a' w') → wpOpsIn (rnd X.round) n P ops Q (List.range' k l.length) a w
  | [], k, env, heap, K, a, w, _, hr, h, hQ => by
    simp only [List.length_nil, List.range'_zero, wpOpsIn]
    exact hQ [] env heap a w hr h
  | o :: l, k, env, heap, K, a, w, hl, hr, h, hQ => by
    obtain ⟨r, hv, hd, hr⟩ := hr
    have h0 : ops[k]? = some o := by simpa using (hl 0).symm
    simp only [List.length_cons, List.range'_succ, wpOpsIn, h0]
    refine gstep hok n h (by omega) (fun s hs => by omega) hv (fun _ _ => rfl) (fun _ _ => rfl) (fun d hd' => by rw [hd'] at hd; simpa using hd) (hg k o h0) ?_
    intro a' w' hR
    refine runs_plain hok n hc1 hg l (k + 1) _ _ _ a' w' (fun j => by have := hl (j + 1); simpa [Nat.add_assoc, Nat.add_comm 1 j] using this) hr ?_ (fun rs env' heap' a2 w2 hK hR2 => hQ (r :: rs) env' heap' a2 w2 hK ?_)
    · obtain ⟨σ, κ, hw, hR⟩ := hR
      exact ⟨σ, κ, hw, hR.more fun s hs => by
        show s / 8 < c + (k + 1)
        rcases hs with hs | hs
        · have : s / 8 < c + k := hs
          omega
        · omega⟩
    · obtain ⟨σ, κ, hw, hR2⟩ := hR2
      exact ⟨σ, κ, hw, hR2.more fun s hs => by
        have : s / 8 < c + (k + 1) + l.length := hs
        show s / 8 < c + k + (o :: l).length
        simp only [List.length_cons]; omega⟩
/-- what the text's order comes to -/
theorem runs_unfold {P : Program} {N c : Nat} {ops : Array Oper} (env : Env) (heap : Heap) :
    ∀ (l : List Oper) (k : Nat) (pre : List Res) (K : List Res → Env → Heap → Prop), pre.length = k → (∀ j, l[j]? = ops[k + j]?) → k + l.length = ops.size →
    Runs P N c ops k l (E ops pre env (fun _ => true) k) (H pre heap (fun _ => true) k) K →
    ∃ rs, rs.length = l.length ∧ K rs (E ops (pre ++ rs) env (fun _ => true) ops.size) (H (pre ++ rs) heap (fun _ => true) ops.size) ∧
      ∀ i o r, k ≤ i → ops[i]? = some o → (pre ++ rs)[i]? = some r → GValid P (c + i) ops o (E ops (pre ++ rs) env (fun _ => true) i) (H (pre ++ rs) heap (fun _ => true) i) r ∧ ∀ d, o.dst = some d → d < N
  | [], k, pre, K, hp, _, hs, h => by
    have hs' : ops.size = k := by simpa using hs.symm
    exact ⟨[], rfl, by rw [List.append_nil, hs']; exact h, fun i o r hi ho => by
      have := (Array.getElem?_eq_some_iff.1 ho).1
      omega⟩
  | o :: l, k, pre, K, hp, hl, hs, ⟨r, hv, hd, h⟩ => by
    have h0 : ops[k]? = some o := by simpa using (hl 0).symm
    have hE : ∀ m, m ≤ k → ∀ rs, E ops (pre ++ rs) env (fun _ => true) m = E ops pre env (fun _ => true) m := by
      intro m
      induction m with
      | zero => intro _ _; rfl
      | succ m ih =>
        intro hm rs
        simp only [E]
        rw [List.getElem?_append_left (by omega), ih (by omega)]
    have hH : ∀ m, m ≤ k → ∀ rs, H (pre ++ rs) heap (fun _ => true) m = H pre heap (fun _ => true) m := by
      intro m
      induction m with
      | zero => intro _ _; rfl
      | succ m ih =>
        intro hm rs
        simp only [H]
        rw [List.getElem?_append_left (by omega), ih (by omega)]
    have e1 : E ops (pre ++ [r]) env (fun _ => true) (k + 1) = putE (E ops pre env (fun _ => true) k) o.dst r.val := by
      simp only [E, h0]
      rw [List.getElem?_append_right (by omega), hp]
      simp only [Nat.sub_self, List.getElem?_cons_zero, cond_true]
      rw [hE k (Nat.le_refl _)]
    have e2 : H (pre ++ [r]) heap (fun _ => true) (k + 1) = updl (H pre heap (fun _ => true) k) r.wr := by
      simp only [H]
      rw [List.getElem?_append_right (by omega), hp]
      simp only [Nat.sub_self, List.getElem?_cons_zero, cond_true]
      rw [hH k (Nat.le_refl _)]
    rw [← e1, ← e2] at h
    obtain ⟨rs, h1, h2, h3⟩ := runs_unfold env heap l (k + 1) (pre ++ [r]) _ (by simp [hp]) (fun j => by have := hl (j + 1); simpa [Nat.add_assoc, Nat.add_comm 1 j] using this) (by simp at hs; omega) h
    simp only [List.append_assoc, List.singleton_append] at h2 h3
    refine ⟨r :: rs, by simp [h1], h2, fun i o' r' hi ho' hr' => ?_⟩
    by_cases hik : i = k
    · subst hik
      rw [h0] at ho'; cases ho'
      have : r' = r := by
        rw [List.getElem?_append_right (by omega), hp] at hr'
        simpa using hr'.symm
      subst this
      rw [hE i (Nat.le_refl _), hH i (Nat.le_refl _)]
      exact ⟨hv, fun d hd' => by rw [hd'] at hd; simpa using hd⟩
    · exact h3 i o' r' (by omega) ho' hr'
theorem E_all {ops : Array Oper} {rs : List Res} {env : Env} {L : Nat → Bool} : ∀ m, (∀ k, k < m → L k = true) → E ops rs env L m = E ops rs env (fun _ => true) m
  | 0, _ => rfl
  | m + 1, h => by
    simp only [E]
    rw [E_all m (fun k hk => h k (by omega)), h m (by omega)]
theorem H_all {rs : List Res} {heap : Heap} {L : Nat → Bool} : ∀ m, (∀ k, k < m → L k = true) → H rs heap L m = H rs heap (fun _ => true) m
  | 0, _ => rfl
  | m + 1, h => by
    simp only [H]
    rw [H_all m (fun k hk => h k (by omega)), h m (by omega)]
def Lf (listed : Array Bool) : Nat → Bool := fun k => listed.getD k false
theorem Lf_set (listed : Array Bool) (i : Nat) (hi : i < listed.size) : Lf (listed.setIfInBounds i true) = lst (Lf listed) i := by
  funext k
  by_cases h : k = i
  · subst h
    rw [lst_same]
    simp [Lf, hi]
  · rw [lst_other _ _ _ h]
    simp only [Lf]
    exact getD_set_ne false (fun e => h e.symm)
theorem any_sound {P : Program} {X : Fix} {c : Nat} {ops : Array Oper} {rs : List Res} {env : Env} {heap : Heap} {Q : Exit → Act → World → Prop} (hok : X.ok P) (n : Nat) (hc1 : 1 ≤ c) (I : Indep ops rs)
    (hv : ∀ i o r, ops[i]? = some o → rs[i]? = some r → GValid P (c + i) ops o (E ops rs env (fun _ => true) i) (H rs heap (fun _ => true) i) r ∧ ∀ d, o.dst = some d → d < X.N)
    (hQ : ∀ a w, R X (fun s => s / 8 < c + I.n) (E ops rs env (fun _ => true) I.n) (H rs heap (fun _ => true) I.n) a w → Q .normal a w) :
    ∀ (fuel : Nat) (listed : Array Bool) (a : Act) (w : World), listed.size = I.n → (∀ k o, ops[k]? = some o → Lf listed k = true → ∀ e ∈ o.after, Region.binds .any e = true → Lf listed e.on = true) →
      (List.range I.n).countP (fun k => !Lf listed k) = fuel → R X (fun s => s / 8 < c ∨ ∃ k, k < I.n ∧ Lf listed k = true ∧ s / 8 = c + k) (E ops rs env (Lf listed) I.n) (H rs heap (Lf listed) I.n) a w → wpAnyIn (rnd X.round) n P .any ops Q fuel listed a w := by
  have fin : ∀ (listed : Array Bool) (a : Act) (w : World), (∀ k, k < I.n → Lf listed k = true) → R X (fun s => s / 8 < c ∨ ∃ k, k < I.n ∧ Lf listed k = true ∧ s / 8 = c + k) (E ops rs env (Lf listed) I.n) (H rs heap (Lf listed) I.n) a w → Q .normal a w := fun listed a w hall hR => by
    rw [E_all I.n hall, H_all I.n hall] at hR
    obtain ⟨σ, κ, hw, hR⟩ := hR
    refine hQ a w ⟨σ, κ, hw, hR.more fun s hs => ?_⟩
    show s / 8 < c + I.n
    rcases hs with hs | ⟨k, hk, _, hs⟩ <;> omega
  intro fuel
  induction fuel with
  | zero =>
    intro listed a w hsz _ hcnt hR
    have hall : ∀ k, k < I.n → Lf listed k = true := fun k hk => by
      have := List.countP_eq_zero.1 hcnt k (by simpa using hk)
      simpa using this
    refine ⟨?_, fin listed a w hall hR⟩
    apply List.eq_nil_iff_forall_not_mem.2
    intro i hi
    obtain ⟨h1, o, ho, _⟩ := mem_ready.1 hi
    have hin : i < I.n := by rw [← I.size]; exact (Array.getElem?_eq_some_iff.1 ho).1
    have h2 := hall i hin
    have hl : i < listed.size := by omega
    simp only [Lf, Array.getD_eq_getD_getElem?, Array.getElem?_eq_getElem hl, Option.getD_some] at h1 h2
    rw [h1] at h2; cases h2
  | succ fuel ih =>
    intro listed a w hsz hclosed hcnt hR
    refine ⟨fun hnil => ?_, fun i hi => ?_⟩
    · refine fin listed a w ?_ hR
      intro k
      induction k using Nat.strongRecOn with
      | _ k ihk =>
        intro hk
        cases hLk : Lf listed k with
        | true => rfl
        | false =>
          obtain ⟨o, ho⟩ : ∃ o, ops[k]? = some o := ⟨_, Array.getElem?_eq_getElem (by rw [I.size]; exact hk)⟩
          have hl : k < listed.size := by omega
          have : k ∈ Region.ready .any ops listed := mem_ready.2 ⟨by
            simp only [Lf, Array.getD_eq_getD_getElem?, Array.getElem?_eq_getElem hl, Option.getD_some] at hLk ⊢
            exact hLk, o, ho, fun e he hb => by
            have hlt := I.edge k o ho e he hb
            exact ihk e.on hlt (by omega)⟩
          rw [hnil] at this; cases this
    · obtain ⟨h1, o, ho, hpre⟩ := mem_ready.1 hi
      have hin : i < I.n := by rw [← I.size]; exact (Array.getElem?_eq_some_iff.1 ho).1
      have hl : i < listed.size := by omega
      obtain ⟨r, hr⟩ : ∃ r, rs[i]? = some r := ⟨_, List.getElem?_eq_getElem (by rw [I.len]; exact hin)⟩
      have hLi : Lf listed i = false := by
        simp only [Lf, Array.getD_eq_getD_getElem?, Array.getElem?_eq_getElem hl, Option.getD_some] at h1 ⊢
        exact h1
      obtain ⟨hgv, hd⟩ := hv i o r ho hr
      have hmin : min I.n i = i := by omega
      unfold wpOpIn
      rw [ho]
      refine gstep hok n hR (by omega) (fun s hs => ?_) hgv (fun t ht => ?_) (fun j hj => ?_) hd (I.grd i o ho) ?_
      · rcases hs with hs | ⟨k, hk, hLk, hs⟩
        · have : s / 8 < c := hs
          omega
        · intro e
          have : k = i := by omega
          subst this
          rw [hLi] at hLk; cases hLk
      · have := E_env I env (Lf listed) hclosed ho hr hLi hpre t ht I.n (Nat.le_refl _)
        rwa [hmin] at this
      · have := H_heap I heap (Lf listed) hclosed ho hr hLi hpre j hj I.n (Nat.le_refl _)
        rwa [hmin] at this
      · intro a' w' hR'
        have e1 := E_put I env (Lf listed) hclosed ho hr hLi I.n (Nat.le_refl _)
        have e2 := H_put I heap (Lf listed) hclosed ho hr hLi I.n (Nat.le_refl _)
        rw [if_pos hin] at e1 e2
        rw [← e1, ← e2, ← Lf_set listed i hl] at hR'
        refine ih (listed.setIfInBounds i true) a' w' (by simpa using hsz) ?_ ?_ ?_
        · intro k ok hk hLk e he hb
          rw [Lf_set listed i hl] at hLk ⊢
          by_cases hki : k = i
          · subst hki
            rw [ho] at hk; cases hk
            have := hpre e he hb
            simp only [lst, Bool.or_eq_true]
            exact .inl this
          · rw [lst_other _ _ _ hki] at hLk
            simp only [lst, Bool.or_eq_true]
            exact .inl (hclosed k ok hk hLk e he hb)
        · rw [Lf_set listed i hl]
          have key : ∀ (l : List Nat), l.Nodup → i ∈ l → l.countP (fun k => !lst (Lf listed) i k) + 1 = l.countP (fun k => !Lf listed k) := by
            intro l
            induction l with
            | nil => intro _ h; cases h
            | cons x l ihl =>
              intro hnd hmem
              obtain ⟨hx, hnd⟩ := List.nodup_cons.1 hnd
              by_cases hxi : x = i
              · subst hxi
                have h0 : l.countP (fun k => !lst (Lf listed) x k) = l.countP (fun k => !Lf listed k) := by
                  apply List.countP_congr
                  intro y hy
                  rw [lst_other _ _ y (fun e => hx (by rw [← e]; exact hy))]
                rw [List.countP_cons_of_neg (by simp [lst_same]), List.countP_cons_of_pos (by simp [hLi]), h0]
              · have hm : i ∈ l := by
                  rcases List.mem_cons.1 hmem with h | h
                  · exact absurd h.symm hxi
                  · exact h
                have h0 := ihl hnd hm
                simp only [List.countP_cons, lst_other _ _ _ hxi]
                omega
          have := key (List.range I.n) List.nodup_range (by simpa using hin)
          omega
        · obtain ⟨σ, κ, hw, hR'⟩ := hR'
          refine ⟨σ, κ, hw, hR'.more fun s hs => ?_⟩
          rcases hs with (hs | ⟨k, hk, hLk, hs⟩) | hs
          · exact .inl hs
          · refine .inr ⟨k, hk, ?_, hs⟩
            rw [Lf_set listed i hl]; simp only [lst, Bool.or_eq_true]; exact .inl hLk
          · exact .inr ⟨i, hin, by rw [Lf_set listed i hl]; exact lst_same _ _, hs⟩
/-! ### the check -/
def closeB (A : List (List Nat)) (ops : List Oper) : Bool :=
  (List.range ops.length).all fun k => match ops[k]?, A[k]? with
    | some o, some l => l.all fun j => o.after.any (fun e => Region.binds .any e && (Nat.beq e.on j || ((A[e.on]?).getD []).contains j))
    | _, _ => false
def edgeB (ops : List Oper) : Bool := (List.range ops.length).all fun k => match ops[k]? with
    | some o => o.after.all fun e => !Region.binds .any e || Nat.blt e.on k
    | none => false
def grdB (ops : List Oper) : Bool := ops.all fun o => match o.guard with
    | none => true
    | some (j, _) => match (ops.toArray[j]?).bind (·.dst) with
      | some d => (o.looksAt ops.toArray).contains d
      | none => true
def pairB (A : List (List Nat)) (rd wr : List (List Nat)) (ops : List Oper) : Bool :=
  (List.range ops.length).all fun k => (List.range k).all fun j => ((A[k]?).getD []).contains j || match ops[j]?, ops[k]? with
    | some oj, some ok =>
      (match oj.dst with | some d => !(ok.looksAt ops.toArray).contains d && ok.dst != some d | none => true) &&
      (match ok.dst with | some d => !(oj.looksAt ops.toArray).contains d | none => true) &&
      ((wr[j]?).getD []).all (fun x => !((rd[k]?).getD []).contains x && !((wr[k]?).getD []).contains x) && ((wr[k]?).getD []).all (fun y => !((rd[j]?).getD []).contains y)
    | _, _ => false
/-- who is ahead of whom, by the edges -/
def anc (ops : List Oper) : List (List Nat) :=
  ops.foldl (init := []) fun acc o => acc ++ [(o.after.toList.foldl (init := []) fun s e => if Region.binds .any e then (e.on :: ((acc[e.on]?).getD [])).foldl (fun s x => if s.contains x then s else x :: s) s else s)]
def indepB (rd wr : List (List Nat)) (ops : List Oper) : Bool :=
  let A := anc ops
  closeB A ops && edgeB ops && grdB ops && pairB A rd wr ops
def Indep.mk' {ops : List Oper} {rs : List Res} (rd wr : List (List Nat)) (hrd : rs.map Res.rd = rd) (hwr : rs.map (fun r => r.wr.map Prod.fst) = wr) (hl : rs.length = ops.length) (hB : indepB rd wr ops = true) : Indep ops.toArray rs where
  ordered := fun j k => j ∈ (((anc ops)[k]?).getD [])
  n := ops.length
  size := by simp
  len := hl
  edge := fun k o ho e he hb => by
    simp only [indepB, Bool.and_eq_true] at hB
    have h1 := hB.1.1.2
    simp only [edgeB, List.all_eq_true, List.mem_range] at h1
    have ho' : ops[k]? = some o := by simpa using ho
    have hk : k < ops.length := (List.getElem?_eq_some_iff.1 ho').1
    have h2 := h1 k hk
    rw [ho'] at h2
    simp only [Array.all_eq_true_iff_forall_mem] at h2
    have h3 := h2 e he
    rw [hb] at h3
    simp only [Bool.not_true, Bool.false_or] at h3
    simpa [Nat.blt_eq] using h3
  grd := fun k o ho j want hg d hd => by
    simp only [indepB, Bool.and_eq_true] at hB
    have h1 := hB.1.2
    simp only [grdB, List.all_eq_true] at h1
    have h2 := h1 o (by have : ops[k]? = some o := by simpa using ho
                        exact List.mem_of_getElem? this)
    rw [hg] at h2
    simp only at h2
    rw [hd] at h2
    simpa using h2
  down := fun D hD j k hk hj hDk => by
    simp only [indepB, Bool.and_eq_true] at hB
    have h1 := hB.1.1.1
    have h2 := hB.1.1.2
    simp only [closeB, edgeB, List.all_eq_true, List.mem_range] at h1 h2
    induction k using Nat.strongRecOn with
    | _ k ih =>
      have h3 := h1 k hk
      have h4 := h2 k hk
      have ho : ops[k]? = some ops[k] := List.getElem?_eq_getElem hk
      rw [ho] at h3 h4
      cases hA : (anc ops)[k]? with
      | none => rw [hA] at h3; cases h3
      | some l =>
        rw [hA] at h3 hj
        simp only [Option.getD_some] at hj
        simp only [List.all_eq_true] at h3
        obtain ⟨e, he, hb⟩ := Array.any_eq_true'.1 (h3 j hj)
        simp only [Bool.and_eq_true, Bool.or_eq_true] at hb
        have hDe := hD k ops[k] (by simp) hDk e he hb.1
        rcases hb.2 with h5 | h5
        · rw [← Nat.eq_of_beq_eq_true h5]; exact hDe
        · have hlt : e.on < k := by
            have h6 := (Array.all_eq_true_iff_forall_mem.1 h4) e he
            rw [hb.1] at h6
            simp only [Bool.not_true, Bool.false_or] at h6
            simpa [Nat.blt_eq] using h6
          exact ih e.on hlt (by omega) (by simpa using h5) hDe
  pair := fun j k oj ok rj rk hjk hoj hok hrj hrk => by
    simp only [indepB, Bool.and_eq_true] at hB
    have h1 := hB.2
    simp only [pairB, List.all_eq_true, List.mem_range] at h1
    have hoj' : ops[j]? = some oj := by simpa using hoj
    have hok' : ops[k]? = some ok := by simpa using hok
    have hk : k < ops.length := (List.getElem?_eq_some_iff.1 hok').1
    have h2 := h1 k hk j hjk
    rw [hoj', hok'] at h2
    have e1 : rd[j]? = some rj.rd := by rw [← hrd, List.getElem?_map, hrj]; rfl
    have e2 : rd[k]? = some rk.rd := by rw [← hrd, List.getElem?_map, hrk]; rfl
    have e3 : wr[j]? = some (rj.wr.map Prod.fst) := by rw [← hwr, List.getElem?_map, hrj]; rfl
    have e4 : wr[k]? = some (rk.wr.map Prod.fst) := by rw [← hwr, List.getElem?_map, hrk]; rfl
    rw [e1, e2, e3, e4] at h2
    simp only [Option.getD_some, Bool.or_eq_true, Bool.and_eq_true, List.all_eq_true] at h2
    rcases h2 with h2 | ⟨⟨⟨h2, h3⟩, h4⟩, h5⟩
    · exact .inl (by simpa using h2)
    · refine .inr ⟨fun d hd => ?_, fun d hd => ?_, fun x hx => ?_, fun y hy hy' => ?_⟩
      · rw [hd] at h2
        simp only [Bool.and_eq_true, Bool.not_eq_true', bne_iff_ne, ne_eq] at h2
        exact ⟨by simpa using h2.1, h2.2⟩
      · rw [hd] at h3
        simpa using h3
      · have := h4 x.1 (List.mem_map.2 ⟨x, hx, rfl⟩)
        simp only [Bool.not_eq_true', List.contains_eq_mem, decide_eq_false_iff_not, List.mem_map, not_exists, not_and] at this
        exact ⟨this.1, fun y hy => this.2 y hy⟩
      · have := h5 y.1 (List.mem_map.2 ⟨y, hy, rfl⟩)
        simp only [Bool.not_eq_true', List.contains_eq_mem, decide_eq_false_iff_not] at this
        exact this hy'
end Ab
end Go.Proofs.Ytdcenocljnlipaa

namespace Go.Proofs.Ytdcenocljnlipaa
open Go.RowKit
namespace Ab
structure St where
  env : Env
  heap : Heap
  cnt : Nat
def RS (X : Fix) (st : St) (a : Act) (w : World) : Prop := 1 ≤ st.cnt ∧ R X (fun s => s / 8 < st.cnt) st.env st.heap a w
def W (P : Program) (N : Nat) (c : Code) (st : St) (Q : Exit → St → Prop) : Prop :=
  ∀ X n a w, X.ok P → X.N = N → RS X st a w → c.wpIn (rnd X.round) n P (fun e a' w' => ∃ st', Q e st' ∧ RS X st' a' w') a w
theorem W.mono {P : Program} {N : Nat} {c : Code} {st : St} {Q Q' : Exit → St → Prop} (h : W P N c st Q) (hq : ∀ e st, Q e st → Q' e st) : W P N c st Q' :=
  fun X n a w hok hX hR => wpIn_mono (h X n a w hok hX hR) fun e _a' _w' ⟨st', h1, h2⟩ => ⟨st', hq e st' h1, h2⟩
section
variable {P : Program} {N : Nat} {st : St} {Q : Exit → St → Prop}
theorem W_skip (h : Q .normal st) : W P N .skip st Q := fun _ _ _ _ _ _ hR => wpIn_skip ⟨st, h, hR⟩
theorem W_label {l : Nat} (h : Q .normal st) : W P N (.label l) st Q := fun _ _ _ _ _ _ hR => wpIn_label ⟨st, h, hR⟩
theorem W_ret (h : Q .ret st) : W P N .ret st Q := fun _ _ _ _ _ _ hR => wpIn_ret ⟨st, h, hR⟩
theorem W_exit {id : Nat} (h : Q (.exit id) st) : W P N (.exit id) st Q := fun _ _ _ _ _ _ hR => wpIn_exit ⟨st, h, hR⟩
theorem W_goto {id : Nat} (h : Q (.goto id) st) : W P N (.goto id) st Q := fun _ _ _ _ _ _ hR => wpIn_goto ⟨st, h, hR⟩
def thenQ (P : Program) (N : Nat) (b : Code) (Q : Exit → St → Prop) : Exit → St → Prop
  | .normal, st => W P N b st Q
  | e, st => Q e st
theorem W_seq {x y : Code} (h : W P N x st (thenQ P N y Q)) : W P N (.seq x y) st Q := fun X n a w hok hX hR =>
  wpIn_seq (wpIn_mono (h X n a w hok hX hR) fun e a' w' ⟨st', h1, h2⟩ => by
    cases e <;> first
      | exact h1 X n a' w' hok hX h2
      | exact ⟨st', h1, h2⟩)
def blockQ (id : Nat) (Q : Exit → St → Prop) : Exit → St → Prop
  | .exit id', st => bif Nat.beq id' id then Q .normal st else Q (.exit id') st
  | e, st => Q e st
theorem W_block {id : Nat} {c : Code} (h : W P N c st (blockQ id Q)) : W P N (.block id c) st Q := fun X n a w hok hX hR =>
  wpIn_block (wpIn_mono (h X n a w hok hX hR) fun e a' w' ⟨st', h1, h2⟩ => by
    cases e with
    | exit id' =>
      simp only [blockQ] at h1
      simp only [Exit.inBlock]
      cases hb : Nat.beq id' id with
      | true =>
        rw [hb] at h1
        rw [if_pos (Nat.eq_of_beq_eq_true hb)]
        exact ⟨st', h1, h2⟩
      | false =>
        rw [hb] at h1
        rw [if_neg (fun e => by rw [e] at hb; simp at hb)]
        exact ⟨st', h1, h2⟩
    | normal => exact ⟨st', h1, h2⟩
    | goto _ => exact ⟨st', h1, h2⟩
    | ret => exact ⟨st', h1, h2⟩
    | panic _ => exact ⟨st', h1, h2⟩
    | outgrown => exact ⟨st', h1, h2⟩)
theorem W_cond {c : Operand} {x y : Code} (β : Bool) (hc : ρof st.env c = Is (.bool β)) (ht : β = true → W P N x st Q) (hf : β = false → W P N y st Q) : W P N (.cond c x y) st Q := fun X n a w hok hX hR => by
  have he : a.eval c = .bool β := by
    obtain ⟨_, σ, κ, _, h⟩ := hR
    have := h.eval c
    rw [hc] at this
    exact this
  exact wpIn_cond_split he (fun h => ht h X n a w hok hX hR) (fun h => hf h X n a w hok hX hR)
theorem R.drew {X : Fix} {used : Nat → Prop} {env : Env} {heap : Heap} {a : Act} {w : World} (h : R X used env heap a w) : R X used env heap a { w with drawn := w.drawn + 1 } := by
  obtain ⟨σ, κ, rfl, h⟩ := h
  have hle : κ.le ⟨{ κ.w with drawn := κ.w.drawn + 1 }, κ.own, κ.lt⟩ := ⟨rfl, rfl, rfl, Nat.le_refl _, fun _ _ h => ⟨h, rfl⟩, fun b k h => ⟨fun k' h' => by have : κ.own b = some k' := h'; rw [h] at this; cases this; exact Nat.le_refl _, fun _ _ _ h => h⟩⟩
  exact ⟨σ, ⟨{ κ.w with drawn := κ.w.drawn + 1 }, κ.own, κ.lt⟩, rfl, { h with
    le0 := Kw.le_trans h.le0 hle
    env_ := fun t => (env t).mono hle (h.env_ t)
    hr := ⟨fun i c hc => Chunk.keep hle (fun _ _ => ⟨rfl, rfl⟩) (h.hr.at_ i c hc), h.hr.far, h.hr.base⟩
    prot := by
      obtain ⟨D, ms, hp⟩ := h.prot
      exact ⟨D, ms, hp.to hle (fun _ _ => ⟨rfl, rfl⟩) (fun _ _ => ⟨rfl, rfl⟩) hp.far (fun _ _ h => h)⟩ }⟩
theorem W_region {id : Nat} {ops : List Oper} (hg : grdB ops = true)
    (h : Runs P N st.cnt ops.toArray 0 ops st.env st.heap (fun _ env heap => Q .normal ⟨env, heap, st.cnt + ops.length⟩)) : W P N (.region id ops.toArray false) st Q := fun X n a w hok hX hR => by
  subst hX
  refine wpIn_region ?_
  have hg' : ∀ (k : Nat) (o : Oper), ops.toArray[k]? = some o → ∀ (j : Nat) (want : Bool), o.guard = some (j, want) → ∀ d : Nat, (ops.toArray[j]?).bind (·.dst) = some d → d ∈ o.looksAt ops.toArray := fun k o ho j want hgd d hd => by
    simp only [grdB, List.all_eq_true] at hg
    have h2 := hg o (by have : ops[k]? = some o := by simpa using ho
                        exact List.mem_of_getElem? this)
    rw [hgd] at h2
    simp only at h2
    rw [hd] at h2
    simpa using h2
  have := runs_plain (P := P) (X := X) (c := st.cnt) (ops := ops.toArray) (Q := fun e a' w' => ∃ st', Q e st' ∧ RS X st' a' w') hok n hR.1 hg' ops 0 st.env st.heap _ a w (fun j => by simp) h hR.2 (fun rs env' heap' a' w' hK hR' => ⟨_, hK, Nat.le_trans hR.1 (Nat.le_add_right _ _), hR'⟩)
  rw [List.range_eq_range']
  simpa using this
theorem W_draw {id : Nat} {ops : List Oper} (hm : P.follows .mixedOrders = true)
    (h : Runs P N st.cnt ops.toArray 0 ops st.env st.heap (fun rs env heap => ∃ rd wr, rs.map Res.rd = rd ∧ rs.map (fun r => r.wr.map Prod.fst) = wr ∧ indepB rd wr ops = true ∧ Q .normal ⟨env, heap, st.cnt + ops.length⟩)) : W P N (.region id ops.toArray true) st Q := fun X n a w hok hX hR => by
  subst hX
  refine wpIn_region_any hm ?_
  obtain ⟨rs, h1, ⟨rd, wr, h2, h3, h4, h5⟩, h6⟩ := runs_unfold (P := P) (N := X.N) (c := st.cnt) (ops := ops.toArray) st.env st.heap ops 0 [] _ rfl (fun j => by simp) (by simp) h
  simp only [List.nil_append] at h2 h3 h5 h6
  have I : Indep ops.toArray rs := Indep.mk' rd wr h2 h3 h1 h4
  refine any_sound (c := st.cnt) (rs := rs) (env := st.env) (heap := st.heap) hok n hR.1 (Indep.mk' rd wr h2 h3 h1 h4) (fun i o r ho hr => h6 i o r (Nat.zero_le _) ho hr) ?_ ops.toArray.size _ a _ ?_ ?_ ?_ ?_
  · intro a' w' hR'
    refine ⟨_, h5, Nat.le_trans hR.1 (Nat.le_add_right _ _), ?_⟩
    have e : ops.toArray.size = (Indep.mk' rd wr h2 h3 h1 h4).n := by simp [Indep.mk']
    rw [e]
    exact hR'
  · simp [Indep.mk']
  · intro k o _ hL
    simp [Lf] at hL
    have := Array.getElem?_replicate (n := ops.length) (v := false) (i := k)
    rw [this] at hL
    split at hL <;> simp at hL
  · have : ∀ k, Lf (Array.replicate ops.length false) k = false := fun k => by
      unfold Lf
      rw [Array.getD_eq_getD_getElem?, Array.getElem?_replicate]
      split <;> rfl
    show (List.range ops.length).countP (fun k => !Lf (Array.replicate ops.length false) k) = ops.length
    simp [this]
  · have hf : Lf (Array.replicate ops.toArray.size false) = fun _ => false := by
      funext k
      unfold Lf
      rw [Array.getD_eq_getD_getElem?, Array.getElem?_replicate]
      split <;> rfl
    have hE : ∀ m, E ops.toArray rs st.env (fun _ => false) m = st.env := by
      intro m
      induction m with
      | zero => rfl
      | succ m ih => simp only [E]; split <;> simp [ih]
    have hH : ∀ m, H rs st.heap (fun _ => false) m = st.heap := by
      intro m
      induction m with
      | zero => rfl
      | succ m ih => simp only [H]; split <;> simp [ih]
    rw [hf, hE, hH]
    obtain ⟨σ, κ, hw, hR'⟩ := R.drew hR.2
    exact ⟨σ, κ, hw, hR'.more fun s hs => .inl hs⟩
/-! ### less is known -/
def Ent (st st' : St) : Prop := ∀ X a w, RS X st a w → RS X st' a w
theorem Ent.refl (st : St) : Ent st st := fun _ _ _ h => h
def AV.leq (θ : Nat → Nat) (A B : AV) : Prop := ∀ σ κ v, A.p σ κ v → B.p (fun i => σ (θ i)) κ v
def All2le (θ : Nat → Nat) : List AV → List AV → Prop
  | [], [] => True
  | A :: l, B :: m => A.leq θ B ∧ All2le θ l m
  | _, _ => False
theorem All2le.all2 {θ : Nat → Nat} {σ : Names} {κ : Kw} : ∀ {l m : List AV} {vs : List Value}, All2le θ l m → All2 σ κ l vs → All2 (fun i => σ (θ i)) κ m vs
  | [], [], [], _, _ => trivial
  | _ :: _, _ :: _, _ :: _, ⟨h1, h2⟩, ⟨h3, h4⟩ => ⟨h1 _ _ _ h3, All2le.all2 h2 h4⟩
  | [], [], _ :: _, _, h => h
  | _ :: _, _ :: _, [], _, h => h
  | [], _ :: _, _, h, _ => h.elim
  | _ :: _, [], _, h, _ => h.elim
theorem all2_known {σ : Names} {κ : Kw} : ∀ {l us : List Value}, All2 σ κ (l.map Is) us → us = l
  | [], [], _ => rfl
  | v :: l, u :: us, ⟨h1, h2⟩ => by
    have h1 : u = v := h1
    rw [h1, all2_known h2]
inductive Chunk.leq (θ : Nat → Nat) : Chunk → Chunk → Prop
  | var {t : TypeId} {cs ds : List AV} (h : All2le θ cs ds) : Chunk.leq θ (.var t cs) (.var t ds)
  | row {t : TypeId} {e n m : Nat} {xs ys : List Value} (h1 : n = m) (h2 : xs = ys) : Chunk.leq θ (.row t e n xs) (.row t e m ys)
  | buf {t : TypeId} {l m : List Value} (h : l = m) : Chunk.leq θ (.buf t l) (.buf t m)
  | bfe {t : TypeId} {e : Nat} {l m : List Value} (h : l = m) : Chunk.leq θ (.bfe t e l) (.bfe t e m)
  | arr {t : TypeId} {l m : List Value} (h : l = m) : Chunk.leq θ (.arr t l) (.arr t m)
  | arr0 {t : TypeId} {l m : List Value} (h : l = m) : Chunk.leq θ (.var t (l.map Is)) (.arr t m)
  | rowA {t : TypeId} {e n m : Nat} {cs ds : List AV} (h1 : n = m) (h2 : cs = ds) : Chunk.leq θ (.rowA t e n cs) (.rowA t e m ds)
  | idx {I : ItC} {k m : Nat} (h : k = m) : Chunk.leq θ (.idx I k) (.idx I m)
theorem Chunk.leq.at_ {θ : Nat → Nat} {σ : Names} {κ : Kw} {u : Value} {c d : Chunk} (h : Chunk.leq θ c d) (hc : c.at σ κ u) : d.at (fun i => σ (θ i)) κ u := by
  cases h with
  | var h => obtain ⟨b, us, h1, h2, h3, h4⟩ := hc; exact ⟨b, us, h1, h2, h.all2 h3, h4⟩
  | row h1 h2 => subst h1 h2; exact hc
  | buf h => subst h; exact hc
  | bfe h => subst h; exact hc
  | arr h => subst h; exact hc
  | arr0 h => subst h; obtain ⟨b, us, h1, h2, h3, h4⟩ := hc; exact ⟨b, h1, by rw [h2, ← all2_known h3], h4⟩
  | rowA h1 h2 => subst h1 h2; obtain ⟨hn, xs, a1, a2, a3, a4⟩ := hc; exact ⟨hn, xs, a1, a2, a3, a4.any hn _⟩
  | idx h => exact hc
def envOf : List (Nat × AV) → Env
  | [] => fun _ => Any
  | (k, A) :: l => upd (envOf l) k A
def hpOf : List (Nat × Chunk) → Heap
  | [] => fun _ => none
  | (k, A) :: l => upd (hpOf l) k (some A)
def EnvLe (θ : Nat → Nat) (env : Env) : List (Nat × AV) → Prop
  | [] => True
  | (k, B) :: l => (env k).leq θ B ∧ EnvLe θ env l
def HpLe (θ : Nat → Nat) (heap : Heap) : List (Nat × Chunk) → Prop
  | [] => True
  | (k, d) :: l => (∃ c, heap (θ k) = some c ∧ Chunk.leq θ c d) ∧ HpLe θ heap l
theorem EnvLe.at_ {θ : Nat → Nat} {env : Env} : ∀ {l : List (Nat × AV)}, EnvLe θ env l → ∀ t, (env t).leq θ (envOf l t)
  | [], _, t => fun _ _ _ _ => trivial
  | (k, B) :: l, ⟨h1, h2⟩, t => by
    by_cases h : t = k
    · subst h; simp only [envOf, upd_same]; exact h1
    · simp only [envOf, upd_other _ _ _ _ h]; exact EnvLe.at_ h2 t
theorem HpLe.at_ {θ : Nat → Nat} {heap : Heap} : ∀ {l : List (Nat × Chunk)}, HpLe θ heap l → ∀ i d, hpOf l i = some d → (∃ c, heap (θ i) = some c ∧ Chunk.leq θ c d)
  | [], _, i, d, h => by cases h
  | (k, B) :: l, ⟨h1, h2⟩, i, d, h => by
    by_cases e : i = k
    · subst e; simp only [hpOf, upd_same] at h; cases h; exact h1
    · simp only [hpOf, upd_other _ _ _ _ e] at h; exact HpLe.at_ h2 i d h
theorem hpOf_mem : ∀ {l : List (Nat × Chunk)} {i : Nat} {d : Chunk}, hpOf l i = some d → (i, d) ∈ l
  | [], i, d, h => by cases h
  | (k, B) :: l, i, d, h => by
    by_cases e : i = k
    · subst e; simp only [hpOf, upd_same] at h; cases h; simp
    · simp only [hpOf, upd_other _ _ _ _ e] at h; exact List.mem_cons_of_mem _ (hpOf_mem h)
theorem envOf_sup : ∀ {l : List (Nat × AV)} {t s : Nat}, s ∈ (envOf l t).sup → ∃ x ∈ l, s ∈ x.2.sup
  | [], t, s, h => by cases h
  | (k, B) :: l, t, s, h => by
    by_cases e : t = k
    · subst e; simp only [envOf, upd_same] at h; exact ⟨_, List.mem_cons_self, h⟩
    · simp only [envOf, upd_other _ _ _ _ e] at h
      obtain ⟨x, hx, hs⟩ := envOf_sup h
      exact ⟨x, List.mem_cons_of_mem _ hx, hs⟩
def SupE (cnt : Nat) : List (Nat × AV) → Prop
  | [] => True
  | (_, B) :: l => (∀ s ∈ B.sup, s / 8 < cnt) ∧ SupE cnt l
def SupH (cnt : Nat) : List (Nat × Chunk) → Prop
  | [] => True
  | (i, d) :: l => (i / 8 < cnt ∧ ∀ s ∈ d.sup, s / 8 < cnt) ∧ SupH cnt l
theorem SupE.mem {cnt : Nat} : ∀ {l : List (Nat × AV)}, SupE cnt l → ∀ x ∈ l, ∀ s ∈ x.2.sup, s / 8 < cnt
  | _ :: _, ⟨h1, h2⟩, x, hx => by
    rcases List.mem_cons.1 hx with rfl | hx
    · exact h1
    · exact SupE.mem h2 x hx
theorem SupH.mem {cnt : Nat} : ∀ {l : List (Nat × Chunk)}, SupH cnt l → ∀ x ∈ l, x.1 / 8 < cnt ∧ ∀ s ∈ x.2.sup, s / 8 < cnt
  | _ :: _, ⟨h1, h2⟩, x, hx => by
    rcases List.mem_cons.1 hx with rfl | hx
    · exact h1
    · exact SupH.mem h2 x hx
/-- names that are unlike stay so -/
def injB (θ : Nat → Nat) : List (Nat × Chunk) → Bool
  | [] => true
  | (i, _) :: l => l.all (fun x => Nat.beq x.1 i || !Nat.beq (θ x.1) (θ i)) && injB θ l
theorem injB.spec {θ : Nat → Nat} : ∀ {l : List (Nat × Chunk)}, injB θ l = true → ∀ x ∈ l, ∀ y ∈ l, x.1 ≠ y.1 → θ x.1 ≠ θ y.1
  | (i, c) :: l, h, x, hx, y, hy, hne => by
    simp only [injB, Bool.and_eq_true, List.all_eq_true, Bool.or_eq_true, Bool.not_eq_true'] at h
    have key : ∀ z ∈ l, z.1 ≠ i → θ z.1 ≠ θ i := fun z hz hzi e => by
      rcases h.1 z hz with h1 | h1
      · exact hzi (Nat.eq_of_beq_eq_true h1)
      · rw [e] at h1; simp at h1
    rcases List.mem_cons.1 hx with rfl | hx <;> rcases List.mem_cons.1 hy with rfl | hy
    · exact absurd rfl hne
    · exact fun e => key y hy (fun e => hne e.symm) e.symm
    · exact key x hx hne
    · exact injB.spec h.2 x hx y hy hne
theorem Ent.of {st : St} {l : List (Nat × AV)} {hl : List (Nat × Chunk)} {cnt : Nat} (θ : Nat → Nat) (hc1 : 1 ≤ cnt) (hθ : ∀ i, i < 8 → θ i = i) (he : EnvLe θ st.env l) (hh : HpLe θ st.heap hl) (hi : injB θ hl = true) (h1 : SupE cnt l) (h2 : SupH cnt hl) : Ent st ⟨envOf l, hpOf hl, cnt⟩ := by
  intro X a w ⟨_, σ, κ, hw, h⟩
  refine ⟨hc1, fun i => σ (θ i), κ, hw, { tmps := h.tmps, prot := ?prot, base := h.base, pin := fun i hi => by rw [hθ i hi]; exact h.pin i hi, env_ := fun t => he.at_ t σ κ _ (h.env_ t), le0 := h.le0, old := h.old, hr := ⟨?_, ?_, ?_⟩, sup := ?_, hsup := ?_ }⟩
  · intro i d hd
    obtain ⟨c, hc, hle⟩ := hh.at_ i d hd
    exact hle.at_ (h.hr.at_ (θ i) c hc)
  · intro i j g hij hni hnj hg
    cases hdi : hpOf hl i with
    | none => exact absurd hdi hni
    | some d =>
      cases hdj : hpOf hl j with
      | none => exact absurd hdj hnj
      | some d' =>
        obtain ⟨c, hc, _⟩ := hh.at_ i d hdi
        obtain ⟨c', hc', _⟩ := hh.at_ j d' hdj
        refine h.hr.far (θ i) (θ j) g (injB.spec hi (i, d) (hpOf_mem hdi) (j, d') (hpOf_mem hdj) hij) (by rw [hc]; simp) (by rw [hc']; simp) hg
  · intro i d g hd hg
    obtain ⟨c, hc, _⟩ := hh.at_ i d hd
    exact h.hr.base (θ i) c g hc hg
  · intro t s hs
    obtain ⟨x, hx, hs⟩ := envOf_sup hs
    exact h1.mem x hx s hs
  · intro i c hc
    exact h2.mem (i, c) (hpOf_mem hc)
  · obtain ⟨D, ms, hp⟩ := h.prot
    refine ⟨D, ms, hp.to (Kw.le_refl κ) (fun _ _ => ⟨rfl, rfl⟩) (fun _ _ => ⟨rfl, rfl⟩) (fun i d g hd hg => ?_) (fun I k e => ?_)⟩
    · obtain ⟨c, hc, _⟩ := hh.at_ i d hd
      exact hp.far (θ i) c g hc hg
    · cases hd : hpOf hl 0 with
      | none => simp [idxOf, hd] at e
      | some d =>
        obtain ⟨c, hc, hle⟩ := hh.at_ 0 d hd
        rw [hθ 0 (by omega)] at hc
        cases d with
        | idx I' k' =>
          simp only [idxOf, hd, Option.some.injEq, Prod.mk.injEq] at e
          obtain ⟨rfl, rfl⟩ := e
          cases hle with
          | idx h => subst h; simp only [idxOf, hc]
        | _ => simp [idxOf, hd] at e
theorem W.ent {c : Code} {st' : St} (h : W P N c st' Q) (he : Ent st st') : W P N c st Q := fun X n a w hok hX hR => h X n a w hok hX (he X a w hR)
theorem least (p : Nat → Prop) (h : ∃ n, p n) : ∃ m, p m ∧ ∀ k, p k → m ≤ k := by
  obtain ⟨n, hn⟩ := h
  induction n using Nat.strongRecOn with
  | _ n ih =>
    by_cases hs : ∃ k, k < n ∧ p k
    · obtain ⟨k, hk, hp⟩ := hs
      exact ih k hk hp
    · exact ⟨n, hn, fun k hk => Nat.le_of_not_lt fun hlt => hs ⟨k, hlt, hk⟩⟩
/-- A LOOP: S tells the states at its head. -/
theorem W_loop {c : Code} {G : Type} (I : G → Prop) (S : G → St) (μ : G → Nat) (g0 : G) (hI : I g0) (h0 : Ent st (S g0))
    (round : ∀ g, I g → W P N c (S g) (fun e st' => match e with | .normal => ∃ g', I g' ∧ μ g' < μ g ∧ Ent st' (S g') | e => Q e st')) : W P N (.loop c) st Q := fun X n a w hok hX hR => by
  subst hX
  classical
  let M : Act → World → Nat := fun a w => if h : ∃ n, ∃ g, μ g = n ∧ I g ∧ RS X (S g) a w then Classical.choose (least _ h) else 0
  have hM : ∀ a w, (∃ g, I g ∧ RS X (S g) a w) → ∃ g, μ g = M a w ∧ I g ∧ RS X (S g) a w := fun a w ⟨g, h1, h2⟩ => by
    have h : ∃ n, ∃ g, μ g = n ∧ I g ∧ RS X (S g) a w := ⟨μ g, g, rfl, h1, h2⟩
    have := (Classical.choose_spec (least _ h)).1
    simp only [M, dif_pos h]
    exact this
  have hle : ∀ a w g, I g → RS X (S g) a w → M a w ≤ μ g := fun a w g h1 h2 => by
    have h : ∃ n, ∃ g, μ g = n ∧ I g ∧ RS X (S g) a w := ⟨μ g, g, rfl, h1, h2⟩
    simp only [M, dif_pos h]
    exact (Classical.choose_spec (least _ h)).2 _ ⟨g, rfl, h1, h2⟩
  refine wpIn_loop (fun a w => ∃ g, I g ∧ RS X (S g) a w) M ⟨g0, hI, h0 X a w hR⟩ ?_
  intro a w hg
  obtain ⟨g, h1, h2, h3⟩ := hM a w hg
  refine wpIn_mono (round g h2 X n a w hok rfl h3) fun e a' w' ⟨st', hq, hR'⟩ => ?_
  cases e with
  | normal =>
    obtain ⟨g', h4, h5, h6⟩ := hq
    exact ⟨⟨g', h4, h6 X a' w' hR'⟩, Nat.lt_of_le_of_lt (hle a' w' g' h4 (h6 X a' w' hR')) (by rw [← h1]; exact h5)⟩
  | exit id => exact ⟨st', hq, hR'⟩
  | goto id => exact ⟨st', hq, hR'⟩
  | ret => exact ⟨st', hq, hR'⟩
  | panic c => exact ⟨st', hq, hR'⟩
  | outgrown => exact ⟨st', hq, hR'⟩
end
end Ab
end Go.Proofs.Ytdcenocljnlipaa

namespace Go.Proofs.Ytdcenocljnlipaa
open Go.RowKit
namespace Ab
section
variable {P : Program} {nid : Nat} {o : Oper} {ρ : Operand → AV} {h : Heap}
/-- an operation that only reads -/
theorem Valid.quiet (A : AV) (hs : ∀ s ∈ A.sup, ∃ x ∈ o.op.operands, s ∈ (ρ x).sup)
    (hrun : ∀ σ (κ : Kw) (a : Act), (∀ x ∈ o.op.operands, (ρ x).p σ κ (a.eval x)) → ∃ v, (execOp a.eval o).run P κ.w = .ok (.value v) κ.w ∧ A.p σ κ v) : Valid P nid o ρ h ⟨A, [], []⟩ where
  run := fun base σ κ h' a next Q hops _ hr hb _ _ hk => by
    obtain ⟨v, hv, hA⟩ := hrun σ κ a hops
    unfold Oper.wp
    rw [hv]
    exact hk v σ κ (Kw.le_refl κ) (fun _ _ => ⟨rfl, rfl⟩) (fun _ _ => rfl) hA hr
  sup := fun U hU _ => ⟨fun s hs' => by
    obtain ⟨x, hx, hxs⟩ := hs s hs'
    exact .inl (hU x hx s hxs), fun i c hc => by cases hc⟩
  wr := fun x hx => by cases hx
theorem nosup {A : AV} (hA : A.sup = []) {q : Nat → Prop} : ∀ s ∈ A.sup, q s := fun s hs => by rw [hA] at hs; cases hs
/-- the value hangs on no world: all operands are known -/
theorem Valid.known (v : Value) (hrun : ∀ (ev : Operand → Value) w, (∀ x ∈ o.op.operands, ∀ u, ρ x = Is u → ev x = u) → (execOp ev o).run P w = .ok (.value v) w) : Valid P nid o ρ h ⟨Is v, [], []⟩ :=
  .quiet (Is v) (nosup rfl) fun σ κ a hops => ⟨v, hrun a.eval κ.w (fun x hx u hu => by have := hops x hx; rw [hu] at this; exact this), rfl⟩
theorem Valid.move {x : Operand} (ho : o.op = .move x) : Valid P nid o ρ h ⟨ρ x, [], []⟩ :=
  .quiet _ (fun s hs => ⟨x, by rw [ho]; simp [Op.operands], hs⟩) fun σ κ a hops => ⟨a.eval x, by unfold execOp; rw [ho]; rfl, hops x (by rw [ho]; simp [Op.operands])⟩
theorem Valid.assign {x : Operand} (ho : o.op = .assign x) : Valid P nid o ρ h ⟨ρ x, [], []⟩ :=
  .quiet _ (fun s hs => ⟨x, by rw [ho]; simp [Op.operands], hs⟩) fun σ κ a hops => ⟨a.eval x, by unfold execOp; rw [ho]; rfl, hops x (by rw [ho]; simp [Op.operands])⟩
theorem Valid.bin {op : BinOp} {t t' : TypeId} {x y : Operand} {u v r : Value} (ho : o.op = .binOp op t x y t') (hx : ρ x = Is u) (hy : ρ y = Is v)
    (hg : ∀ w, (eqGuard op t x y u v).run P w = .ok () w) (hr : ∀ w, (binOp op t u v).run P w = .ok r w) : Valid P nid o ρ h ⟨Is r, [], []⟩ :=
  .known r fun ev w hev => by
    have e1 := hev x (by rw [ho]; simp [Op.operands]) u hx
    have e2 := hev y (by rw [ho]; simp [Op.operands]) v hy
    unfold execOp
    rw [ho]
    simp only [Sem.run_bind, e1, e2, hg, hr, Result.andThen_ok, Sem.run_pure]
theorem guard_int (op : BinOp) (t : TypeId) (x y : Operand) (k k' : IntKind) (a b : Int) (w : World) : (eqGuard op t x y (.int k a) (.int k' b)).run P w = .ok () w := by
  unfold eqGuard
  cases op <;> rfl
theorem guard_str (op : BinOp) (t : TypeId) (x y : Operand) (a b : ByteArray) (w : World) : (eqGuard op t x y (.string a) (.string b)).run P w = .ok () w := by
  unfold eqGuard
  cases op <;> rfl
theorem guard_bool (op : BinOp) (t : TypeId) (x y : Operand) (a b : Bool) (w : World) : (eqGuard op t x y (.bool a) (.bool b)).run P w = .ok () w := by
  unfold eqGuard
  cases op <;> rfl
section ints
variable {t t' : TypeId} {x y : Operand} {k : IntKind} {a b : Int}
theorem Valid.addw (ho : o.op = .binOp .add t x y t') (hx : ρ x = Is (.int k a)) (hy : ρ y = Is (.int k b)) : Valid P nid o ρ h ⟨Is (.int k (k.wrap (a + b))), [], []⟩ :=
  .bin ho hx hy (guard_int _ _ _ _ _ _ _ _) (fun w => by simp [binOp, Op.intArith])
theorem Valid.subw (ho : o.op = .binOp .sub t x y t') (hx : ρ x = Is (.int k a)) (hy : ρ y = Is (.int k b)) : Valid P nid o ρ h ⟨Is (.int k (k.wrap (a - b))), [], []⟩ :=
  .bin ho hx hy (guard_int _ _ _ _ _ _ _ _) (fun w => by simp [binOp, Op.intArith])
theorem Valid.mulw (ho : o.op = .binOp .mul t x y t') (hx : ρ x = Is (.int k a)) (hy : ρ y = Is (.int k b)) : Valid P nid o ρ h ⟨Is (.int k (k.wrap (a * b))), [], []⟩ :=
  .bin ho hx hy (guard_int _ _ _ _ _ _ _ _) (fun w => by simp [binOp, Op.intArith])
/-- the kind has room for it -/
def Room (k : IntKind) (a : Int) : Prop := k.wrap a = a
theorem room64 {a : Int} (h1 : -9223372036854775808 ≤ a) (h2 : a ≤ 9223372036854775807) : Room .i64 a := by
  unfold Room
  rw [IntKind.wrap_i64]; omega
theorem Valid.add (ho : o.op = .binOp .add t x y t') (hx : ρ x = Is (.int k a)) (hy : ρ y = Is (.int k b)) (hr : Room k (a + b)) : Valid P nid o ρ h ⟨Is (.int k (a + b)), [], []⟩ := by
  have := Valid.addw (P := P) (nid := nid) (h := h) ho hx hy
  rwa [hr] at this
theorem Valid.sub (ho : o.op = .binOp .sub t x y t') (hx : ρ x = Is (.int k a)) (hy : ρ y = Is (.int k b)) (hr : Room k (a - b)) : Valid P nid o ρ h ⟨Is (.int k (a - b)), [], []⟩ := by
  have := Valid.subw (P := P) (nid := nid) (h := h) ho hx hy
  rwa [hr] at this
theorem Valid.mul (ho : o.op = .binOp .mul t x y t') (hx : ρ x = Is (.int k a)) (hy : ρ y = Is (.int k b)) (hr : Room k (a * b)) : Valid P nid o ρ h ⟨Is (.int k (a * b)), [], []⟩ := by
  have := Valid.mulw (P := P) (nid := nid) (h := h) ho hx hy
  rwa [hr] at this
theorem Valid.lss (ho : o.op = .binOp .lss t x y t') (hx : ρ x = Is (.int k a)) (hy : ρ y = Is (.int k b)) : Valid P nid o ρ h ⟨Is (.bool (decide (a < b))), [], []⟩ :=
  .bin ho hx hy (guard_int _ _ _ _ _ _ _ _) (fun w => by simp [binOp, Op.intCmp])
theorem Valid.leq (ho : o.op = .binOp .leq t x y t') (hx : ρ x = Is (.int k a)) (hy : ρ y = Is (.int k b)) : Valid P nid o ρ h ⟨Is (.bool (decide (a ≤ b))), [], []⟩ :=
  .bin ho hx hy (guard_int _ _ _ _ _ _ _ _) (fun w => by simp [binOp, Op.intCmp])
theorem Valid.gtr (ho : o.op = .binOp .gtr t x y t') (hx : ρ x = Is (.int k a)) (hy : ρ y = Is (.int k b)) : Valid P nid o ρ h ⟨Is (.bool (decide (b < a))), [], []⟩ :=
  .bin ho hx hy (guard_int _ _ _ _ _ _ _ _) (fun w => by simp [binOp, Op.intCmp])
theorem Valid.geq (ho : o.op = .binOp .geq t x y t') (hx : ρ x = Is (.int k a)) (hy : ρ y = Is (.int k b)) : Valid P nid o ρ h ⟨Is (.bool (decide (b ≤ a))), [], []⟩ :=
  .bin ho hx hy (guard_int _ _ _ _ _ _ _ _) (fun w => by simp [binOp, Op.intCmp])
theorem Valid.eql (ho : o.op = .binOp .eql t x y t') (hx : ρ x = Is (.int k a)) (hy : ρ y = Is (.int k b)) : Valid P nid o ρ h ⟨Is (.bool (decide (a = b))), [], []⟩ :=
  .bin ho hx hy (guard_int _ _ _ _ _ _ _ _) (fun w => by simp [binOp, Op.intCmp]; rfl)
theorem Valid.neq (ho : o.op = .binOp .neq t x y t') (hx : ρ x = Is (.int k a)) (hy : ρ y = Is (.int k b)) : Valid P nid o ρ h ⟨Is (.bool (decide (a ≠ b))), [], []⟩ :=
  .bin ho hx hy (guard_int _ _ _ _ _ _ _ _) (fun w => by
    have e : (a != b) = decide (a ≠ b) := by by_cases hab : a = b <;> simp [hab]
    simp [binOp, Op.intCmp, e])
theorem Valid.quo (ho : o.op = .binOp .quo t x y t') (hx : ρ x = Is (.int k a)) (hy : ρ y = Is (.int k b)) (h1 : 0 ≤ a) (h2 : 0 < b) (hr : Room k (a / b)) : Valid P nid o ρ h ⟨Is (.int k (a / b)), [], []⟩ :=
  .bin ho hx hy (guard_int _ _ _ _ _ _ _ _) (fun w => by
    have e : a.tdiv b = a / b := Int.tdiv_eq_ediv_of_nonneg h1
    have hb : b ≠ 0 := by omega
    have hr' : k.wrap (a / b) = a / b := hr
    simp [binOp, Op.intDiv, hb, e, hr'])
theorem Valid.rem (ho : o.op = .binOp .rem t x y t') (hx : ρ x = Is (.int k a)) (hy : ρ y = Is (.int k b)) (h1 : 0 ≤ a) (h2 : 0 < b) : Valid P nid o ρ h ⟨Is (.int k (a % b)), [], []⟩ :=
  .bin ho hx hy (guard_int _ _ _ _ _ _ _ _) (fun w => by
    have e : a.tmod b = a % b := Int.tmod_eq_emod_of_nonneg h1
    have hb : b ≠ 0 := by omega
    simp [binOp, Op.intDiv, hb, e])
theorem Valid.shlw {k' : IntKind} (ho : o.op = .binOp .shl t x y t') (hx : ρ x = Is (.int k a)) (hy : ρ y = Is (.int k' b)) (h1 : 0 ≤ b) : Valid P nid o ρ h ⟨Is (.int k (k.wrap (a * 2 ^ min b.toNat k.bits))), [], []⟩ :=
  .bin ho hx hy (guard_int _ _ _ _ _ _ _ _) (fun w => by
    have hb : ¬ b < 0 := by omega
    simp [binOp, Op.shift, hb])
theorem Valid.shrw {k' : IntKind} (ho : o.op = .binOp .shr t x y t') (hx : ρ x = Is (.int k a)) (hy : ρ y = Is (.int k' b)) (h1 : 0 ≤ b) : Valid P nid o ρ h ⟨Is (.int k (a.fdiv (2 ^ min b.toNat k.bits))), [], []⟩ :=
  .bin ho hx hy (guard_int _ _ _ _ _ _ _ _) (fun w => by
    have hb : ¬ b < 0 := by omega
    simp [binOp, Op.shift, hb])
theorem Valid.bits {op : BinOp} {r : Value} (ho : o.op = .binOp op t x y t') (hx : ρ x = Is (.int k a)) (hy : ρ y = Is (.int k b)) (hr : ∀ w, (binOp op t (.int k a) (.int k b)).run P w = .ok r w) : Valid P nid o ρ h ⟨Is r, [], []⟩ :=
  .bin ho hx hy (guard_int _ _ _ _ _ _ _ _) hr
theorem Valid.neg (ho : o.op = .unOp .neg t x) (hx : ρ x = Is (.int k a)) (hr : Room k (0 - a)) : Valid P nid o ρ h ⟨Is (.int k (0 - a)), [], []⟩ :=
  .known _ fun ev w hev => by
    have e1 := hev x (by rw [ho]; simp [Op.operands]) _ hx
    unfold execOp
    rw [ho]
    have hr' : k.wrap (0 - a) = 0 - a := hr
    simp only [e1, Op.unary, Op.intArith, hr', Sem.run_bind, Sem.run_pure, Result.andThen_ok]
theorem Valid.not {β : Bool} (ho : o.op = .unOp .not t x) (hx : ρ x = Is (.bool β)) : Valid P nid o ρ h ⟨Is (.bool (!β)), [], []⟩ :=
  .known _ fun ev w hev => by
    have e1 := hev x (by rw [ho]; simp [Op.operands]) _ hx
    unfold execOp
    rw [ho]
    simp only [e1, Op.unary, Sem.run_bind, Sem.run_pure, Result.andThen_ok]
theorem Valid.conv {src dst : TypeId} {k' : IntKind} {d : TypeDesc} (ho : o.op = .convert src dst x) (hx : ρ x = Is (.int k a)) (hs : P.underlying src = some d) (hd : P.underlying dst = some (.int k')) : Valid P nid o ρ h ⟨Is (.int k' (k'.wrap a)), [], []⟩ :=
  .known _ fun ev w hev => by
    have e1 := hev x (by rw [ho]; simp [Op.operands]) _ hx
    unfold execOp
    rw [ho]
    simp only [e1, Sem.run_bind, convert, run_underlying hs, run_underlying hd, Result.andThen_ok, Conv.intToInt, Sem.run_pure]
theorem Valid.convr {src dst : TypeId} {k' : IntKind} {d : TypeDesc} (ho : o.op = .convert src dst x) (hx : ρ x = Is (.int k a)) (hs : P.underlying src = some d) (hd : P.underlying dst = some (.int k')) (hr : Room k' a) : Valid P nid o ρ h ⟨Is (.int k' a), [], []⟩ := by
  have := Valid.conv (P := P) (nid := nid) (h := h) ho hx hs hd
  rwa [hr] at this
end ints
section strs
variable {t t' : TypeId} {x y : Operand} {a b : ByteArray}
theorem Valid.cat (ho : o.op = .binOp .add t x y t') (hx : ρ x = Is (.string a)) (hy : ρ y = Is (.string b)) (hr : a.size + b.size ≤ 9223372036854775807) : Valid P nid o ρ h ⟨Is (.string (a ++ b)), [], []⟩ :=
  .bin ho hx hy (guard_str _ _ _ _ _ _) (fun w => by
    have : ¬ ((a.size + b.size : Nat) : Int) > IntKind.i64.max := by have : IntKind.i64.max = 9223372036854775807 := rfl; omega
    simp only [binOp, Op.stringOp]
    rw [if_neg this]
    rfl)
theorem bytes_beq (a b : ByteArray) : (a.toList == b.toList) = decide (a = b) := by
  rw [ByteArray.toList_eq, ByteArray.toList_eq]
  by_cases e : a = b
  · subst e; simp
  · have : ¬ a.data = b.data := fun h => e (by cases a; cases b; simp only at h; subst h; rfl)
    simp [e, this]
theorem Valid.seql (ho : o.op = .binOp .eql t x y t') (hx : ρ x = Is (.string a)) (hy : ρ y = Is (.string b)) : Valid P nid o ρ h ⟨Is (.bool (decide (a = b))), [], []⟩ :=
  .bin ho hx hy (guard_str _ _ _ _ _ _) (fun w => by
    rw [← bytes_beq]
    simp [binOp, Op.stringOp])
theorem Valid.sneq (ho : o.op = .binOp .neq t x y t') (hx : ρ x = Is (.string a)) (hy : ρ y = Is (.string b)) : Valid P nid o ρ h ⟨Is (.bool (decide (a ≠ b))), [], []⟩ :=
  .bin ho hx hy (guard_str _ _ _ _ _ _) (fun w => by
    have : decide (a ≠ b) = !decide (a = b) := by simp
    rw [this, ← bytes_beq]
    simp [binOp, Op.stringOp])
theorem Valid.slss (ho : o.op = .binOp .lss t x y t') (hx : ρ x = Is (.string a)) (hy : ρ y = Is (.string b)) : Valid P nid o ρ h ⟨Is (.bool (Op.bytesLess a.toList b.toList)), [], []⟩ :=
  .bin ho hx hy (guard_str _ _ _ _ _ _) (fun w => by simp [binOp, Op.stringOp])
theorem Valid.sgtr (ho : o.op = .binOp .gtr t x y t') (hx : ρ x = Is (.string a)) (hy : ρ y = Is (.string b)) : Valid P nid o ρ h ⟨Is (.bool (!(Op.bytesLess a.toList b.toList || (a.toList == b.toList)))), [], []⟩ :=
  .bin ho hx hy (guard_str _ _ _ _ _ _) (fun w => by simp [binOp, Op.stringOp])
theorem Valid.beql {u v : Bool} (ho : o.op = .binOp .eql t x y t') (hx : ρ x = Is (.bool u)) (hy : ρ y = Is (.bool v)) (ht : P.underlying t = some .bool) : Valid P nid o ρ h ⟨Is (.bool (u == v)), [], []⟩ :=
  .bin ho hx hy (guard_bool _ _ _ _ _ _) (fun w => by
    have h : ∀ d : Nat, (Op.equalIn (d + 1) t (.bool u) (.bool v)).run P w = .ok (u == v) w := fun d => by simp [Op.equalIn, run_underlying ht]
    simp only [binOp]
    simp [Op.equal, Op.maxDepth, h 9999])
theorem Valid.bneq {u v : Bool} (ho : o.op = .binOp .neq t x y t') (hx : ρ x = Is (.bool u)) (hy : ρ y = Is (.bool v)) (ht : P.underlying t = some .bool) : Valid P nid o ρ h ⟨Is (.bool (!(u == v))), [], []⟩ :=
  .bin ho hx hy (guard_bool _ _ _ _ _ _) (fun w => by
    have h : ∀ d : Nat, (Op.equalIn (d + 1) t (.bool u) (.bool v)).run P w = .ok (u == v) w := fun d => by simp [Op.equalIn, run_underlying ht]
    simp only [binOp]
    simp [Op.equal, Op.maxDepth, h 9999])
end strs
section picks
variable {c x y : Operand} {β : Bool}
/-- 'a && b' -/
theorem Valid.pickand {γ : Bool} (ho : o.op = .pick c x y) (hc : ρ c = Is (.bool β)) {q : Prop} (hx : ρ x = Cnd q (Is (.bool γ))) (hq : β = true → q) (hy : ρ y = Is (.bool false)) : Valid P nid o ρ h ⟨Is (.bool (β && γ)), [], []⟩ :=
  .quiet _ (nosup rfl) fun σ κ a hops => by
    have e1 := hops c (by rw [ho]; simp [Op.operands])
    have e2 := hops x (by rw [ho]; simp [Op.operands])
    have e3 := hops y (by rw [ho]; simp [Op.operands])
    rw [hc] at e1; rw [hx] at e2; rw [hy] at e3
    have e1 : a.eval c = .bool β := e1
    have e3 : a.eval y = .bool false := e3
    refine ⟨.bool (β && γ), ?_, rfl⟩
    unfold execOp
    rw [ho]
    simp only [e1, asBool, Sem.run_bind, Sem.run_pure, Result.andThen_ok]
    cases β with
    | false => simp [e3]
    | true =>
      have e2 : a.eval x = .bool γ := e2.1 (hq rfl)
      simp [e2]
/-- 'a || b' -/
theorem Valid.pickor {γ : Bool} (ho : o.op = .pick c x y) (hc : ρ c = Is (.bool β)) (hx : ρ x = Is (.bool true)) {q : Prop} (hy : ρ y = Cnd q (Is (.bool γ))) (hq : β = false → q) : Valid P nid o ρ h ⟨Is (.bool (β || γ)), [], []⟩ :=
  .quiet _ (nosup rfl) fun σ κ a hops => by
    have e1 := hops c (by rw [ho]; simp [Op.operands])
    have e2 := hops x (by rw [ho]; simp [Op.operands])
    have e3 := hops y (by rw [ho]; simp [Op.operands])
    rw [hc] at e1; rw [hx] at e2; rw [hy] at e3
    have e1 : a.eval c = .bool β := e1
    have e2 : a.eval x = .bool true := e2
    refine ⟨.bool (β || γ), ?_, rfl⟩
    unfold execOp
    rw [ho]
    simp only [e1, asBool, Sem.run_bind, Sem.run_pure, Result.andThen_ok]
    cases β with
    | true => simp [e2]
    | false =>
      have e3 : a.eval y = .bool γ := e3.1 (hq rfl)
      simp [e3]
end picks
/-! ### calls -/
/-- function f, of such arguments, comes to such a value, and turns nothing that was there -/
structure FPure (P : Program) (f : FuncId) (args : List AV) (A : AV) : Prop where
  calls : ∀ (σ : Names) (κ : Kw) (vs : List Value), All2 σ κ args vs → Calls P f vs.toArray κ.w (fun e w' => ∃ v κ', e = .returned v ∧ κ'.w = w' ∧ κ.le κ' ∧ (∀ b, b < κ.w.heap.size → κ'.own b = κ.own b ∧ κ'.w.heap[b]? = κ.w.heap[b]?) ∧ A.p σ κ' v)
  sup : A.sup = []
  ent : ∀ (args : Array Value) (w : World), (callFunc f args).run P w = .ok (.enter f args) w
theorem run_callFunc {f : FuncId} {fn : Func} (hf : P.funcs[f]? = some fn) (hn : (fn.name == "runtime.NumGoroutine") = false) (hb : fn.body.isNone = false) (args : Array Value) (w : World) : (callFunc f args).run P w = .ok (.enter f args) w := by
  have hn' : ¬ fn.name = "runtime.NumGoroutine" := by simpa using hn
  have hb' : ¬ fn.body = none := by intro e; rw [e] at hb; cases hb
  simp [callFunc, hf, hn', hb']
def argsLe (ρ : Operand → AV) : List Operand → List AV → Prop
  | [], [] => True
  | x :: xs, A :: l => (∀ σ κ v, (ρ x).p σ κ v → A.p σ κ v) ∧ argsLe ρ xs l
  | _, _ => False
theorem argsLe.all2 {σ : Names} {κ : Kw} {ev : Operand → Value} : ∀ {xs : List Operand} {l : List AV}, argsLe ρ xs l → (∀ x ∈ xs, (ρ x).p σ κ (ev x)) → All2 σ κ l (xs.map ev)
  | [], [], _, _ => trivial
  | x :: xs, A :: l, ⟨h1, h2⟩, h => ⟨h1 _ _ _ (h x (by simp)), argsLe.all2 h2 fun y hy => h y (by simp [hy])⟩
  | [], _ :: _, h, _ => h.elim
  | _ :: _, [], h, _ => h.elim
theorem HR.grow {base : Nat → Prop} {σ : Names} {κ κ' : Kw} {h : Heap} (hr : HR base σ κ h) (hle : κ.le κ') (hb : ∀ b, b < κ.w.heap.size → κ'.own b = κ.own b ∧ κ'.w.heap[b]? = κ.w.heap[b]?) : HR base σ κ' h where
  at_ := fun i c hc => Chunk.keep hle (fun g hg => by
    obtain ⟨k, hk⟩ := Chunk.own (hr.at_ i c hc) hg
    have := hb g (κ.lt g k hk)
    exact ⟨this.2, this.1⟩) (hr.at_ i c hc)
  far := hr.far
  base := hr.base
theorem Valid.call {f : FuncId} {xs : Array Operand} {ts : Array TypeId} {avs : List AV} {A : AV} (ho : o.op = .call { callee := .value (.func f), args := xs, argTypes := ts })
    (hc : FPure P f avs A) (ha : argsLe ρ xs.toList avs) : Valid P nid o ρ h ⟨A, [], []⟩ where
  run := fun base σ κ h' a next Q hops _ hr hbase _ _ hk => by
    have hops' : ∀ x ∈ xs.toList, (ρ x).p σ κ (a.eval x) := fun x hx => hops x (by rw [ho]; simp [Op.operands, Call.operands]; exact .inr (by simpa using hx))
    have hcalls := hc.calls σ κ _ (argsLe.all2 ha hops')
    unfold Oper.wp execOp
    rw [ho]
    simp only [resolve, Act.eval, Deferred.ofValue, invoke, Sem.run_bind, Sem.run_pure, Result.andThen_ok]
    have e : Array.map a.eval xs = (xs.toList.map a.eval).toArray := by apply Array.ext'; simp
    have e2 : (fun x : Operand => match x with | Operand.tmp t => a.tmps.getD t undef | Operand.const v => v | Operand.global g => Value.pointer (some { block := g, off := 0 }) | Operand.func f => Value.func (Fn.func f) #[] #[]) = a.eval := by
      funext x; cases x <;> rfl
    simp only [e, Array.empty_append, Array.append_empty, hc.ent]
    simp only [Oper.upon]
    refine hcalls.mono ?_
    rintro e w' ⟨v, κ', rfl, rfl, hle, hold, hA⟩
    exact hk v σ κ' hle (fun b hb' => hold b (hbase b hb')) (fun _ _ => rfl) hA (hr.grow hle hold)
  sup := fun U _ _ => ⟨(fun s hs => by have : s ∈ A.sup := hs; rw [hc.sup] at this; cases this), fun i c hc => by cases hc⟩
  wr := fun x hx => by cases hx
end
end Ab
end Go.Proofs.Ytdcenocljnlipaa

namespace Go.Proofs.Ytdcenocljnlipaa
open Go.RowKit
namespace Ab
/-- a value that is a slice which reads as these cells -/
def Reads (A : AV) (e n : Nat) (xs : List Value) : Prop := ∀ σ κ v, A.p σ κ v → SlP κ e n xs v
theorem Reads.sl {A : AV} {e n : Nat} {xs : List Value} (h : A = Sl e n xs) : Reads A e n xs := fun σ κ v hv => by subst h; exact hv
theorem Reads.own {A : AV} {id e n : Nat} {xs : List Value} (h : A = Own id e n xs) : Reads A e n xs := fun σ κ v hv => by subst h; exact hv.2
theorem Reads.nil {A : AV} {e : Nat} (h : A = Is (.slice none 0 0)) : Reads A e 0 [] := fun σ κ v hv => by
  subst h
  have hv : v = .slice none 0 0 := hv
  exact ⟨by simp, .inl ⟨hv, rfl⟩⟩
theorem SlP.form {κ : Kw} {e n : Nat} {xs : List Value} {u : Value} (h : SlP κ e n xs u) : ∃ a c, u = .slice a n c := by
  obtain ⟨_, ⟨rfl, rfl⟩ | ⟨ad, c, rfl, _⟩⟩ := h
  · exact ⟨none, 0, rfl⟩
  · exact ⟨some ad, c, rfl⟩
theorem SlP.len {κ : Kw} {e n : Nat} {xs : List Value} {u : Value} (h : SlP κ e n xs u) : n ≤ maxLen := by
  obtain ⟨_, ⟨rfl, rfl⟩ | ⟨ad, c, rfl, h1, h2, _⟩⟩ := h
  · unfold maxLen; omega
  · omega
theorem add_eq {ad : Addr} {j : Nat} (h : ad.spot = none) : ad.add j = ⟨ad.block, ad.off + j, none⟩ := by
  unfold Addr.add
  split
  · rename_i h0; subst h0; cases ad; simp at h; simp [h]
  · rfl
section
variable {P : Program} {nid : Nat} {o : Oper} {ρ : Operand → AV} {h : Heap}
theorem Valid.len {x : Operand} {t : TypeId} {e n : Nat} {xs : List Value} {el : TypeId} (ho : o.op = .call { callee := .builtin .len, args := #[x], argTypes := #[t] }) (ht : P.underlying t = some (.slice el)) (hx : Reads (ρ x) e n xs) :
    Valid P nid o ρ h ⟨Is (.int .i64 (n : Int)), [], []⟩ :=
  .quiet _ (nosup rfl) fun σ κ a hops => by
    obtain ⟨b, c, hu⟩ := (hx σ κ _ (hops x (by rw [ho]; simp [Op.operands, Call.operands]))).form
    refine ⟨.int .i64 (n : Int), ?_, rfl⟩
    unfold execOp
    rw [ho]
    simp [resolve, invoke, builtin, Builtin.len_, run_underlying ht, hu, goInt, Result.andThen]
theorem Valid.slen {x : Operand} {t : TypeId} {s : ByteArray} (ho : o.op = .call { callee := .builtin .len, args := #[x], argTypes := #[t] }) (ht : P.underlying t = some .string) (hx : ρ x = Is (.string s)) :
    Valid P nid o ρ h ⟨Is (.int .i64 (s.size : Int)), [], []⟩ :=
  .known _ fun ev w hev => by
    have hu := hev x (by rw [ho]; simp [Op.operands, Call.operands]) _ hx
    unfold execOp
    rw [ho]
    simp [resolve, invoke, builtin, Builtin.len_, run_underlying ht, hu, goInt, Result.andThen]
theorem Valid.min {x y : Operand} {ts : Array TypeId} {k : IntKind} {a b : Int} (ho : o.op = .call { callee := .builtin .min, args := #[x, y], argTypes := ts }) (hx : ρ x = Is (.int k a)) (hy : ρ y = Is (.int k b)) :
    Valid P nid o ρ h ⟨Is (.int k (min a b)), [], []⟩ :=
  .known _ fun ev w hev => by
    have h1 := hev x (by rw [ho]; simp [Op.operands, Call.operands]) _ hx
    have h2 := hev y (by rw [ho]; simp [Op.operands, Call.operands]) _ hy
    have e : (if b < a then b else a) = Min.min a b := by rw [Int.min_def]; split <;> split <;> omega
    unfold execOp
    rw [ho]
    simp [resolve, invoke, builtin, Builtin.min_, Builtin.min2, h1, h2, e]
theorem Valid.max {x y : Operand} {ts : Array TypeId} {k : IntKind} {a b : Int} (ho : o.op = .call { callee := .builtin .max, args := #[x, y], argTypes := ts }) (hx : ρ x = Is (.int k a)) (hy : ρ y = Is (.int k b)) :
    Valid P nid o ρ h ⟨Is (.int k (max a b)), [], []⟩ :=
  .known _ fun ev w hev => by
    have h1 := hev x (by rw [ho]; simp [Op.operands, Call.operands]) _ hx
    have h2 := hev y (by rw [ho]; simp [Op.operands, Call.operands]) _ hy
    have e : (if a < b then b else a) = Max.max a b := by rw [Int.max_def]; split <;> split <;> omega
    unfold execOp
    rw [ho]
    simp [resolve, invoke, builtin, Builtin.max_, Builtin.max2, h1, h2, e]
/-- the byte at a place -/
def bat (s : ByteArray) (i : Int) : UInt8 := s.data.toList.getD i.toNat 0
theorem Valid.sindex {x y : Operand} {t : TypeId} {s : ByteArray} {k : IntKind} {i : Int} (ho : o.op = .index t x y) (ht : P.underlying t = some .string) (hx : ρ x = Is (.string s)) (hy : ρ y = Is (.int k i)) (hi : 0 ≤ i ∧ i < s.size) :
    Valid P nid o ρ h ⟨Is (.int .u8 ((bat s i).toNat : Int)), [], []⟩ :=
  .known _ fun ev w hev => by
    have h1 := hev x (by rw [ho]; simp [Op.operands]) _ hx
    have h2 := hev y (by rw [ho]; simp [Op.operands]) _ hy
    have h3 : i.toNat < s.size := by omega
    have h4 : s[i.toNat]? = some (bat s i) := by
      unfold bat
      have h3' : i.toNat < s.data.toList.length := by simpa using h3
      rw [List.getD_eq_getElem?_getD, List.getElem?_eq_getElem h3']
      simp only [Option.getD_some]
      rw [getElem?_pos s i.toNat h3]
      rfl
    unfold execOp
    rw [ho]
    simp only [h1, h2, Instr.index, asIntOf, Sem.run_bind, Sem.run_pure, Result.andThen_ok, run_underlying ht, if_pos hi.1, h4]
/-- 's[lo:hi]' of a string -/
theorem run_sliceBound (k : IntKind) (i : Int) (y : Nat) (c : BoundsCode) (h0 : 0 ≤ i) (h1 : i ≤ y) (w : World) : (Instr.sliceBound (.int k i) y c).run P w = .ok i.toNat w := by
  simp only [Instr.sliceBound, asIntOf, Sem.run_bind, Sem.run_pure, Result.andThen_ok]
  rw [if_pos ⟨h0, h1⟩]
  rfl
theorem Valid.sslice {x y z : Operand} {t : TypeId} {s : ByteArray} {k k' : IntKind} {i j : Int} (ho : o.op = .slice t x (some y) (some z) none) (ht : P.underlying t = some .string) (hx : ρ x = Is (.string s)) (hy : ρ y = Is (.int k i)) (hz : ρ z = Is (.int k' j))
    (hi : 0 ≤ i ∧ i ≤ j ∧ j ≤ s.size) : Valid P nid o ρ h ⟨Is (.string (s.extract i.toNat j.toNat)), [], []⟩ :=
  .known _ fun ev w hev => by
    have h1 := hev x (by rw [ho]; simp [Op.operands]) _ hx
    have h2 := hev y (by rw [ho]; simp [Op.operands]) _ hy
    have h3 := hev z (by rw [ho]; simp [Op.operands]) _ hz
    have e1 : (Instr.sliceBound (.int k' j) s.size .sliceAlen).run P w = .ok j.toNat w := run_sliceBound k' j s.size _ (by omega) (by omega) w
    have e2 : (Instr.sliceBound (.int k i) j.toNat .sliceB).run P w = .ok i.toNat w := run_sliceBound k i j.toNat _ (by omega) (by omega) w
    unfold execOp
    rw [ho]
    simp [h1, h2, h3, Instr.sliceAt, Instr.slice, Instr.sliceBounds, run_underlying ht, e1, e2, Result.andThen]
theorem Valid.ssliceto {x z : Operand} {t : TypeId} {s : ByteArray} {k' : IntKind} {j : Int} (ho : o.op = .slice t x none (some z) none) (ht : P.underlying t = some .string) (hx : ρ x = Is (.string s)) (hz : ρ z = Is (.int k' j))
    (hi : 0 ≤ j ∧ j ≤ s.size) : Valid P nid o ρ h ⟨Is (.string (s.extract 0 j.toNat)), [], []⟩ :=
  .known _ fun ev w hev => by
    have h1 := hev x (by rw [ho]; simp [Op.operands]) _ hx
    have h3 := hev z (by rw [ho]; simp [Op.operands]) _ hz
    have e1 : (Instr.sliceBound (.int k' j) s.size .sliceAlen).run P w = .ok j.toNat w := run_sliceBound k' j s.size _ (by omega) (by omega) w
    unfold execOp
    rw [ho]
    simp [h1, h3, Instr.sliceAt, Instr.slice, Instr.sliceBounds, run_underlying ht, e1, Result.andThen]
theorem Valid.sslicefrom {x y : Operand} {t : TypeId} {s : ByteArray} {k : IntKind} {i : Int} (ho : o.op = .slice t x (some y) none none) (ht : P.underlying t = some .string) (hx : ρ x = Is (.string s)) (hy : ρ y = Is (.int k i))
    (hi : 0 ≤ i ∧ i ≤ s.size) : Valid P nid o ρ h ⟨Is (.string (s.extract i.toNat s.size)), [], []⟩ :=
  .known _ fun ev w hev => by
    have h1 := hev x (by rw [ho]; simp [Op.operands]) _ hx
    have h2 := hev y (by rw [ho]; simp [Op.operands]) _ hy
    have e2 : (Instr.sliceBound (.int k i) s.size .sliceB).run P w = .ok i.toNat w := run_sliceBound k i s.size _ (by omega) (by omega) w
    unfold execOp
    rw [ho]
    simp [h1, h2, Instr.sliceAt, Instr.slice, Instr.sliceBounds, run_underlying ht, e2, Result.andThen]
/-- the address of an element -/
theorem Valid.eltaddr {x y : Operand} {t el : TypeId} {e n : Nat} {xs : List Value} {k : IntKind} {i : Int} (ho : o.op = .indexAddr t x y) (ht : P.underlying t = some (.slice el)) (hsz : ∀ w, (sizeOf el).run P w = .ok e w) (hx : Reads (ρ x) e n xs) (hy : ρ y = Is (.int k i)) (hi : 0 ≤ i ∧ i < n) :
    Valid P nid o ρ h ⟨Elt ((xs.drop (i.toNat * e)).take e), [], []⟩ :=
  .quiet _ (nosup rfl) fun σ κ a hops => by
    have h1 := hx σ κ _ (hops x (by rw [ho]; simp [Op.operands]))
    have h2 := hops y (by rw [ho]; simp [Op.operands])
    rw [hy] at h2
    have h2 : a.eval y = .int k i := h2
    obtain ⟨hl, ⟨hu, rfl⟩ | ⟨ad, c, hu, hc1, hc2, hrd⟩⟩ := h1
    · omega
    · refine ⟨.pointer (some (ad.add (i.toNat * e))), ?_, ad.add (i.toNat * e), rfl, ?_⟩
      · unfold execOp
        rw [ho]
        simp [hu, h2, Instr.indexAt, asIntOf, run_underlying ht, hsz, hi.1, hi.2, Result.andThen]
      · intro j u hj
        have hj2 : xs[i.toNat * e + j]? = some u := by
          rw [List.getElem?_take] at hj
          split at hj
          · rwa [List.getElem?_drop] at hj
          · cases hj
        obtain ⟨s1, s2, s3⟩ := hrd _ u hj2
        rw [add_eq s1]
        exact ⟨rfl, by rw [Nat.add_assoc]; exact s2, fun m hm => by have := s3 m hm; simp only; omega⟩
/-- so, of one cell each: the element, told by a list -/
theorem Valid.eltaddr1 {G : Type} {x y : Operand} {t el : TypeId} {n : Nat} {f : G → Value} {l : List G} {k : IntKind} {i : Int} (d : G) (ho : o.op = .indexAddr t x y) (ht : P.underlying t = some (.slice el)) (hsz : ∀ w, (sizeOf el).run P w = .ok 1 w) (hx : Reads (ρ x) 1 n (l.map f)) (hy : ρ y = Is (.int k i)) (hi : 0 ≤ i ∧ i < n) (hn : n = l.length) :
    Valid P nid o ρ h ⟨Elt [f (l.getD i.toNat d)], [], []⟩ := by
  have hv := Valid.eltaddr (P := P) (nid := nid) (h := h) ho ht hsz hx hy hi
  have hlt : i.toNat < l.length := by omega
  have e : ((l.map f).drop (i.toNat * 1)).take 1 = [f (l.getD i.toNat d)] := by
    rw [Nat.mul_one, List.getD_eq_getElem?_getD, List.getElem?_eq_getElem hlt]
    rw [List.drop_eq_getElem_cons (by simpa using hlt)]
    simp
  rwa [e] at hv
theorem Valid.loadelt {x : Operand} {t : TypeId} {v : Value} {vs : List Value} (ho : o.op = .load t x) (hag : ∀ w, (isAgg t).run P w = .ok false w) (hx : ρ x = Elt (v :: vs)) : Valid P nid o ρ h ⟨Is v, [], []⟩ :=
  .quiet _ (nosup rfl) fun σ κ a hops => by
    have h1 := hops x (by rw [ho]; simp [Op.operands])
    rw [hx] at h1
    obtain ⟨ad, hu, hrd⟩ := h1
    obtain ⟨s1, s2, _⟩ := hrd 0 v rfl
    refine ⟨v, ?_, rfl⟩
    have e : (⟨ad.block, ad.off + 0, none⟩ : Addr) = ad := by cases ad; simp at s1; simp [s1]
    rw [e] at s2
    unfold execOp
    rw [ho]
    simp only [hu, Instr.loadAt, Instr.sureAddr, Sem.run_bind, Sem.run_pure, Result.andThen_ok, loadVar, hag]
    simp [load, Sem.run, s2, Result.andThen]
theorem Valid.loadeltagg {x : Operand} {t : TypeId} {vs : List Value} (ho : o.op = .load t x) (hag : ∀ w, (isAgg t).run P w = .ok true w) (hsz : ∀ w, (sizeOf t).run P w = .ok vs.length w) (hx : ρ x = Elt vs) : Valid P nid o ρ h ⟨Agg (vs.map Is), [], []⟩ :=
  .quiet _ (fun s hs => by
    have : ∀ l : List Value, (l.map Is).flatMap AV.sup = [] := fun l => by induction l <;> simp_all [Is]
    have hs' : s ∈ (vs.map Is).flatMap AV.sup := hs
    rw [this] at hs'; cases hs') fun σ κ a hops => by
    have h1 := hops x (by rw [ho]; simp [Op.operands])
    rw [hx] at h1
    obtain ⟨ad, hu, hrd⟩ := h1
    refine ⟨.agg vs.toArray, ?_, vs, rfl, ?_⟩
    · have hc := run_loadCells_list (P := P) (w := κ.w) ad vs (fun j v hj => by
        obtain ⟨s1, s2, _⟩ := hrd j v hj
        rw [add_eq s1]; exact s2)
      unfold execOp
      rw [ho]
      simp only [hu, Instr.loadAt, Instr.sureAddr, Sem.run_bind, Sem.run_pure, Result.andThen_ok, loadVar, hag, if_true, hsz, hc]
    · have : ∀ l : List Value, All2 σ κ (l.map Is) l := fun l => by
        induction l with
        | nil => trivial
        | cons v l ih => exact ⟨rfl, ih⟩
      exact this vs
/-- 'x[lo:hi]' of a slice -/
theorem sl_cut {κ : Kw} {e n : Nat} {xs : List Value} {ad : Addr} {c i j : Nat} (hl : xs.length = n * e) (hc2 : c ≤ maxLen) (hrd : Rd κ ad xs) (hij : i ≤ j) (hjn : j ≤ n) (hnc : n ≤ c) :
    SlP κ e (j - i) ((xs.drop (i * e)).take ((j - i) * e)) (.slice (some (if c = i then ad else ad.add (i * e))) (j - i) (c - i)) := by
  have hle : (j - i) * e ≤ xs.length - i * e := by
    rw [hl, ← Nat.sub_mul]
    exact Nat.mul_le_mul_right _ (by omega)
  refine ⟨by rw [List.length_take, List.length_drop]; omega, .inr ⟨_, _, rfl, by omega, by omega, fun q u hq => ?_⟩⟩
  have hq2 : xs[i * e + q]? = some u := by
    rw [List.getElem?_take] at hq
    split at hq
    · rwa [List.getElem?_drop] at hq
    · cases hq
  by_cases hci : c = i
  · exfalso
    have : (j - i) * e = 0 := by have : j - i = 0 := by omega
                                 rw [this]; simp
    rw [List.getElem?_take] at hq
    split at hq
    · omega
    · cases hq
  · rw [if_neg hci]
    obtain ⟨s1, s2, s3⟩ := hrd _ u hq2
    rw [add_eq s1]
    exact ⟨rfl, by rw [Nat.add_assoc]; exact s2, fun m hm => by have := s3 m hm; simp only; omega⟩
theorem Valid.slice {x y z : Operand} {t el : TypeId} {e n : Nat} {xs : List Value} {k k' : IntKind} {i j : Int} (ho : o.op = .slice t x (some y) (some z) none) (ht : P.underlying t = some (.slice el)) (hsz : ∀ w, (sizeOf el).run P w = .ok e w) (hx : Reads (ρ x) e n xs) (hy : ρ y = Is (.int k i)) (hz : ρ z = Is (.int k' j))
    (hi : 0 ≤ i ∧ i ≤ j ∧ j ≤ n) : Valid P nid o ρ h ⟨Sl e (j.toNat - i.toNat) ((xs.drop (i.toNat * e)).take ((j.toNat - i.toNat) * e)), [], []⟩ :=
  .quiet _ (nosup rfl) fun σ κ a hops => by
    have h1 := hx σ κ _ (hops x (by rw [ho]; simp [Op.operands]))
    have h2 := hops y (by rw [ho]; simp [Op.operands])
    have h3 := hops z (by rw [ho]; simp [Op.operands])
    rw [hy] at h2; rw [hz] at h3
    have h2 : a.eval y = .int k i := h2
    have h3 : a.eval z = .int k' j := h3
    obtain ⟨hl, ⟨hu, rfl⟩ | ⟨ad, c, hu, hc1, hc2, hrd⟩⟩ := h1
    · have hi0 : i = 0 := by omega
      have hj0 : j = 0 := by omega
      subst hi0 hj0
      refine ⟨.slice none 0 0, ?_, ?_⟩
      · have e1 : (Instr.sliceBound (.int k' 0) 0 .sliceAcap).run P κ.w = .ok 0 κ.w := run_sliceBound k' 0 0 _ (by omega) (by omega) _
        have e2 : (Instr.sliceBound (.int k 0) 0 .sliceB).run P κ.w = .ok 0 κ.w := run_sliceBound k 0 0 _ (by omega) (by omega) _
        unfold execOp
        rw [ho]
        simp [hu, h2, h3, Instr.sliceAt, Instr.slice, Instr.sliceBounds, run_underlying ht, e1, e2, hsz, Result.andThen]
      · exact ⟨by simp, .inl ⟨rfl, rfl⟩⟩
    · have hcut := sl_cut (i := i.toNat) (j := j.toNat) hl hc2 hrd (by omega) (by omega) hc1
      refine ⟨_, ?_, hcut⟩
      have e1 : (Instr.sliceBound (.int k' j) c .sliceAcap).run P κ.w = .ok j.toNat κ.w := run_sliceBound k' j c _ (by omega) (by omega) _
      have e2 : (Instr.sliceBound (.int k i) j.toNat .sliceB).run P κ.w = .ok i.toNat κ.w := run_sliceBound k i j.toNat _ (by omega) (by omega) _
      unfold execOp
      rw [ho]
      simp [hu, h2, h3, Instr.sliceAt, Instr.slice, Instr.sliceBounds, run_underlying ht, e1, e2, hsz, Result.andThen]
      split <;> rfl
theorem Valid.sliceto {x z : Operand} {t el : TypeId} {e n : Nat} {xs : List Value} {k' : IntKind} {j : Int} (ho : o.op = .slice t x none (some z) none) (ht : P.underlying t = some (.slice el)) (hsz : ∀ w, (sizeOf el).run P w = .ok e w) (hx : Reads (ρ x) e n xs) (hz : ρ z = Is (.int k' j))
    (hi : 0 ≤ j ∧ j ≤ n) : Valid P nid o ρ h ⟨Sl e j.toNat (xs.take (j.toNat * e)), [], []⟩ :=
  .quiet _ (nosup rfl) fun σ κ a hops => by
    have h1 := hx σ κ _ (hops x (by rw [ho]; simp [Op.operands]))
    have h3 := hops z (by rw [ho]; simp [Op.operands])
    rw [hz] at h3
    have h3 : a.eval z = .int k' j := h3
    obtain ⟨hl, ⟨hu, rfl⟩ | ⟨ad, c, hu, hc1, hc2, hrd⟩⟩ := h1
    · have hj0 : j = 0 := by omega
      subst hj0
      refine ⟨.slice none 0 0, ?_, ?_⟩
      · have e1 : (Instr.sliceBound (.int k' 0) 0 .sliceAcap).run P κ.w = .ok 0 κ.w := run_sliceBound k' 0 0 _ (by omega) (by omega) _
        unfold execOp
        rw [ho]
        simp [hu, h3, Instr.sliceAt, Instr.slice, Instr.sliceBounds, run_underlying ht, e1, hsz, Result.andThen]
      · exact ⟨by simp, .inl ⟨rfl, rfl⟩⟩
    · have hcut := sl_cut (i := 0) (j := j.toNat) hl hc2 hrd (by omega) (by omega) hc1
      simp only [Nat.zero_mul, List.drop_zero, Nat.sub_zero] at hcut
      refine ⟨_, ?_, hcut⟩
      have e1 : (Instr.sliceBound (.int k' j) c .sliceAcap).run P κ.w = .ok j.toNat κ.w := run_sliceBound k' j c _ (by omega) (by omega) _
      unfold execOp
      rw [ho]
      simp [hu, h3, Instr.sliceAt, Instr.slice, Instr.sliceBounds, run_underlying ht, e1, hsz, Result.andThen]
      split <;> rfl
theorem Valid.slicefrom {x y : Operand} {t el : TypeId} {e n : Nat} {xs : List Value} {k : IntKind} {i : Int} (ho : o.op = .slice t x (some y) none none) (ht : P.underlying t = some (.slice el)) (hsz : ∀ w, (sizeOf el).run P w = .ok e w) (hx : Reads (ρ x) e n xs) (hy : ρ y = Is (.int k i))
    (hi : 0 ≤ i ∧ i ≤ n) : Valid P nid o ρ h ⟨Sl e (n - i.toNat) (xs.drop (i.toNat * e)), [], []⟩ :=
  .quiet _ (nosup rfl) fun σ κ a hops => by
    have h1 := hx σ κ _ (hops x (by rw [ho]; simp [Op.operands]))
    have h2 := hops y (by rw [ho]; simp [Op.operands])
    rw [hy] at h2
    have h2 : a.eval y = .int k i := h2
    obtain ⟨hl, ⟨hu, rfl⟩ | ⟨ad, c, hu, hc1, hc2, hrd⟩⟩ := h1
    · have hi0 : i = 0 := by omega
      subst hi0
      have hxs : xs = [] := List.eq_nil_of_length_eq_zero (by simpa using hl)
      subst hxs
      refine ⟨.slice none 0 0, ?_, ?_⟩
      · have e2 : (Instr.sliceBound (.int k 0) 0 .sliceB).run P κ.w = .ok 0 κ.w := run_sliceBound k 0 0 _ (by omega) (by omega) _
        unfold execOp
        rw [ho]
        simp [hu, h2, Instr.sliceAt, Instr.slice, Instr.sliceBounds, run_underlying ht, e2, hsz, Result.andThen]
      · exact ⟨by simp, .inl ⟨rfl, rfl⟩⟩
    · have hcut := sl_cut (i := i.toNat) (j := n) hl hc2 hrd (by omega) (by omega) hc1
      have e3 : ((xs.drop (i.toNat * e)).take ((n - i.toNat) * e)) = xs.drop (i.toNat * e) := by
        apply List.take_of_length_le
        rw [List.length_drop, hl, Nat.sub_mul]; omega
      rw [e3] at hcut
      refine ⟨_, ?_, hcut⟩
      have e2 : (Instr.sliceBound (.int k i) n .sliceB).run P κ.w = .ok i.toNat κ.w := run_sliceBound k i n _ (by omega) (by omega) _
      unfold execOp
      rw [ho]
      simp [hu, h2, Instr.sliceAt, Instr.slice, Instr.sliceBounds, run_underlying ht, e2, hsz, Result.andThen]
      split <;> rfl
/-- bytes as a string -/
def B (b : UInt8) : Value := .int .u8 (b.toNat : Int)
theorem Valid.tostring {x : Operand} {t st el : TypeId} {n : Nat} {l : List UInt8} (ho : o.op = .convert t st x) (ht : P.underlying t = some (.slice el)) (he : P.underlying el = some (.int .u8)) (hst : P.underlying st = some .string) (hx : Reads (ρ x) 1 n (l.map B)) :
    Valid P nid o ρ h ⟨Is (.string ⟨l.toArray⟩), [], []⟩ :=
  .quiet _ (nosup rfl) fun σ κ a hops => by
    have h1 := hx σ κ _ (hops x (by rw [ho]; simp [Op.operands]))
    refine ⟨.string ⟨l.toArray⟩, ?_, rfl⟩
    have hrun : (convert t st (a.eval x)).run P κ.w = .ok (.string ⟨l.toArray⟩) κ.w := by
      obtain ⟨hl, ⟨hu, rfl⟩ | ⟨ad, c, hu, hc1, hc2, hrd⟩⟩ := h1
      · have hn : l = [] := List.eq_nil_of_length_eq_zero (by simpa using hl)
        subst hn
        rw [hu]
        exact run_convert_bytes_nil κ.w t el ht he 0 0 st hst
      · have hn : n = l.length := by simpa using hl.symm
        subst hn
        rw [hu]
        refine run_convert_bytes_back κ.w t st el ad c l ht he hst (fun j hj => ?_)
        obtain ⟨s1, s2, _⟩ := hrd j (B l[j]) (by simp [hj])
        rw [add_eq s1]; exact s2
    unfold execOp
    rw [ho]
    simp only [Sem.run_bind, hrun, Result.andThen_ok, Sem.run_pure]
theorem Valid.extract {x : Operand} {i : Nat} {l : List AV} (A : AV) (ho : o.op = .extract x i) (hx : ρ x = Tup l) (hi : l[i]? = some A) : Valid P nid o ρ h ⟨A, [], []⟩ :=
  .quiet _ (fun s hs => ⟨x, by rw [ho]; simp [Op.operands], by rw [hx]; exact sup_mem (List.mem_of_getElem? hi) hs⟩) fun σ κ a hops => by
    have h1 := hops x (by rw [ho]; simp [Op.operands])
    rw [hx] at h1
    obtain ⟨us, hu, hall⟩ := h1
    have key : ∀ (l : List AV) (us : List Value) (i : Nat), All2 σ κ l us → l[i]? = some A → ∃ v, us[i]? = some v ∧ A.p σ κ v := by
      intro l
      induction l with
      | nil => intro us i _ h; simp at h
      | cons B l ih =>
        intro us i h1 h2
        cases us with
        | nil => exact h1.elim
        | cons u us =>
          cases i with
          | zero => simp at h2; subst h2; exact ⟨u, rfl, h1.1⟩
          | succ i => simpa using ih us i h1.2 (by simpa using h2)
    obtain ⟨v, hv, hA⟩ := key l us i hall hi
    refine ⟨v, ?_, hA⟩
    unfold execOp
    rw [ho]
    simp only [hu, Instr.extract]
    have : us.toArray[i]? = some v := by simpa using hv
    rw [this]
    rfl
end
end Ab
end Go.Proofs.Ytdcenocljnlipaa

namespace Go.Proofs.Ytdcenocljnlipaa
open Go.RowKit
namespace Ab
/-- memory behind a step: a chunk laid, some gone -/
theorem HR.set {base : Nat → Prop} {σ : Names} {κ κ' : Kw} {h : Heap} (hr : HR base σ κ h) (hle : κ.le κ') (id : Nat) (v : Value) (c : Chunk) (gone : Nat → Bool)
    (hkeep : ∀ i d, h i = some d → i ≠ id → gone i = false → ∀ g, blk (σ i) = some g → κ'.w.heap[g]? = κ.w.heap[g]? ∧ κ'.own g = κ.own g)
    (hc : c.at (upd σ id v) κ' v) (hfar : ∀ i g, h i ≠ none → i ≠ id → gone i = false → blk (σ i) = some g → blk v ≠ some g) (hb : ∀ g, blk v = some g → ¬ base g)
    (hs : ∀ i d, h i = some d → i ≠ id → gone i = false → ∀ j ∈ d.sup, upd σ id v j = σ j) (h' : Heap) (h1 : h' id = some c) (h2 : ∀ i, i ≠ id → gone i = false → h' i = h i) (h3 : ∀ i, i ≠ id → gone i = true → h' i = none) : HR base (upd σ id v) κ' h' where
  at_ := fun i d hd => by
    by_cases e : i = id
    · subst e
      rw [h1] at hd; cases hd
      rw [upd_same]; exact hc
    · rw [upd_other _ _ _ _ e]
      cases hg : gone i with
      | true => rw [h3 i e hg] at hd; cases hd
      | false =>
        rw [h2 i e hg] at hd
        exact Chunk.keep hle (hkeep i d hd e hg) (Chunk.loc (hs i d hd e hg) (hr.at_ i d hd))
  far := fun i j g hij hi hj hg => by
    have live : ∀ i, i ≠ id → h' i ≠ none → gone i = false ∧ h i ≠ none := fun i e hi => by
      cases hg : gone i with
      | true => exact absurd (h3 i e hg) hi
      | false => exact ⟨rfl, by rw [← h2 i e hg]; exact hi⟩
    by_cases e : i = id
    · subst e
      rw [upd_same] at hg
      have ej : j ≠ i := fun e => hij e.symm
      obtain ⟨l1, l2⟩ := live j ej hj
      rw [upd_other _ _ _ _ ej]
      exact fun hg' => hfar j g l2 ej l1 hg' hg
    · obtain ⟨l1, l2⟩ := live i e hi
      rw [upd_other _ _ _ _ e] at hg
      by_cases ej : j = id
      · subst ej
        rw [upd_same]
        exact hfar i g l2 e l1 hg
      · obtain ⟨m1, m2⟩ := live j ej hj
        rw [upd_other _ _ _ _ ej]
        exact hr.far i j g hij l2 m2 hg
  base := fun i d g hd hg => by
    by_cases e : i = id
    · subst e; rw [upd_same] at hg; exact hb g hg
    · rw [upd_other _ _ _ _ e] at hg
      cases hgi : gone i with
      | true => rw [h3 i e hgi] at hd; cases hd
      | false => rw [h2 i e hgi] at hd; exact hr.base i d g hd hg
theorem blk_lt {base : Nat → Prop} {σ : Names} {κ : Kw} {h : Heap} (hr : HR base σ κ h) {i : Nat} {d : Chunk} (hd : h i = some d) {g : Nat} (hg : blk (σ i) = some g) : g < κ.w.heap.size := by
  obtain ⟨k, hk⟩ := Chunk.own (hr.at_ i d hd) hg
  exact κ.lt g k hk
/-- a new block, that may turn from cell k on -/
def Kw.new (κ : Kw) (o : Obj) (k : Option Nat) : Kw where
  w := κ.w.alloc o
  own := fun b => if b = κ.w.heap.size then k else κ.own b
  lt := fun b n hb => by
    simp only [World.size_alloc]
    split at hb
    · omega
    · have := κ.lt b n hb; omega
theorem Kw.new_le (κ : Kw) (o : Obj) (k : Option Nat) : κ.le (κ.new o k) where
  os := rfl
  tape := rfl
  output := rfl
  size := by simp [Kw.new]
  still := fun b hb ho => ⟨by simp [Kw.new, Nat.ne_of_lt hb, ho], heap_alloc_old _ _ hb⟩
  grow := fun b n ho => by
    have hb := κ.lt b n ho
    refine ⟨fun k' hk' => ?_, fun j u _ hu => ?_⟩
    · simp only [Kw.new, if_neg (Nat.ne_of_lt hb)] at hk'
      rw [ho] at hk'; cases hk'; exact Nat.le_refl _
    · simp only [World.cell?, Kw.new] at hu ⊢
      rw [heap_alloc_old _ _ hb]; exact hu
theorem Kw.new_old (κ : Kw) (o : Obj) (k : Option Nat) (b : Nat) (hb : b < κ.w.heap.size) : (κ.new o k).own b = κ.own b ∧ (κ.new o k).w.heap[b]? = κ.w.heap[b]? :=
  ⟨by simp [Kw.new, Nat.ne_of_lt hb], heap_alloc_old _ _ hb⟩
theorem Kw.new_at (κ : Kw) (o : Obj) (k : Option Nat) : (κ.new o k).w.heap[κ.w.heap.size]? = some o ∧ (κ.new o k).own κ.w.heap.size = k := ⟨heap_alloc_new _ _, by simp [Kw.new]⟩
section
variable {P : Program} {nid : Nat} {o : Oper} {ρ : Operand → AV} {h : Heap}
/-- an operation that makes one new block, which may not turn -/
theorem Valid.fresh (A : AV) (hs : A.sup = [])
    (hrun : ∀ σ (κ : Kw) (a : Act), (∀ x ∈ o.op.operands, (ρ x).p σ κ (a.eval x)) → ∃ v κ', (execOp a.eval o).run P κ.w = .ok (.value v) κ'.w ∧ κ.le κ' ∧ (∀ b, b < κ.w.heap.size → κ'.own b = κ.own b ∧ κ'.w.heap[b]? = κ.w.heap[b]?) ∧ A.p σ κ' v) : Valid P nid o ρ h ⟨A, [], []⟩ where
  run := fun base σ κ h' a next Q hops _ hr hb _ _ hk => by
    obtain ⟨v, κ', hv, hle, hold, hA⟩ := hrun σ κ a hops
    unfold Oper.wp
    rw [hv]
    exact hk v σ κ' hle (fun b hb' => hold b (hb b hb')) (fun _ _ => rfl) hA (hr.grow hle hold)
  sup := fun U _ _ => ⟨nosup hs, fun i c hc => by cases hc⟩
  wr := fun x hx => by cases hx
theorem rd_new (κ : Kw) (cs : List Value) (t : TypeId) : Rd (κ.new (.cells cs.toArray t) none) ⟨κ.w.heap.size, 0, none⟩ cs := fun j u hj => by
  refine ⟨rfl, ?_, fun k hk => ?_⟩
  · have := (Kw.new_at κ (.cells cs.toArray t) none).1
    simp only [World.cell?, this]
    simpa using hj
  · rw [(Kw.new_at κ (.cells cs.toArray t) none).2] at hk; cases hk
/-- a slice literal -/
theorem Valid.buildslice {t el : TypeId} {n e : Nat} {parts : Array (Nat × Operand)} (vals : List (Nat × Value)) (cs : List Value) (ho : o.op = .buildSlice t n parts)
    (hp : parts.toList.map (fun x => (x.1, ρ x.2)) = vals.map (fun x => (x.1, Is x.2)))
    (hrun : ∀ w : World, (Instr.buildSlice t n vals.toArray).run P w = .ok (.slice (some ⟨w.heap.size, 0, none⟩) n n) (w.alloc (.cells cs.toArray el))) (hl : cs.length = n * e) (hn : n ≤ maxLen) :
    Valid P nid o ρ h ⟨Sl e n cs, [], []⟩ :=
  .fresh _ rfl fun σ κ a hops => by
    have hv : (parts.map fun x => (x.1, a.eval x.2)) = vals.toArray := by
      apply Array.ext'
      rw [Array.toList_map]
      have key : ∀ (ps : List (Nat × Operand)) (vs : List (Nat × Value)), (∀ x ∈ ps, (ρ x.2).p σ κ (a.eval x.2)) → ps.map (fun x => (x.1, ρ x.2)) = vs.map (fun x => (x.1, Is x.2)) → ps.map (fun x => (x.1, a.eval x.2)) = vs := by
        intro ps
        induction ps with
        | nil => intro vs _ h; cases vs with
          | nil => rfl
          | cons _ _ => cases h
        | cons p ps ih =>
          intro vs h1 h2
          cases vs with
          | nil => cases h2
          | cons v vs =>
            simp only [List.map_cons, List.cons.injEq, Prod.mk.injEq] at h2 ⊢
            refine ⟨?_, ih vs (fun x hx => h1 x (by simp [hx])) h2.2⟩
            have h3 := h1 p (by simp)
            rw [h2.1.2] at h3
            have h3 : a.eval p.2 = v.2 := h3
            rw [h3, h2.1.1]
      exact key parts.toList vals (fun x hx => hops x.2 (by rw [ho]; simp [Op.operands]; exact ⟨x.1, by simpa using hx⟩)) hp
    refine ⟨_, κ.new (.cells cs.toArray el) none, ?_, κ.new_le _ _, fun b hb => κ.new_old _ _ b hb, ⟨hl, .inr ⟨⟨κ.w.heap.size, 0, none⟩, n, rfl, Nat.le_refl _, hn, rd_new κ cs el⟩⟩⟩
    unfold execOp
    rw [ho]
    simp only [hv, hrun, Sem.run_bind, Result.andThen_ok, Sem.run_pure]
    rfl
/-- a struct of known parts -/
theorem Valid.build {t : TypeId} {parts : Array (Nat × Operand)} (vals : List (Nat × Value)) (cs : List Value) (ho : o.op = .build t parts)
    (hp : parts.toList.map (fun x => (x.1, ρ x.2)) = vals.map (fun x => (x.1, Is x.2)))
    (hrun : ∀ w : World, (Instr.build t vals.toArray).run P w = .ok (.agg cs.toArray) w) : Valid P nid o ρ h ⟨Agg (cs.map Is), [], []⟩ :=
  .quiet _ (fun s hs => by
    have : ∀ l : List Value, (l.map Is).flatMap AV.sup = [] := fun l => by induction l <;> simp_all [Is]
    have hs' : s ∈ (cs.map Is).flatMap AV.sup := hs
    rw [this] at hs'; cases hs') fun σ κ a hops => by
    have hv : (parts.map fun x => (x.1, a.eval x.2)) = vals.toArray := by
      apply Array.ext'
      rw [Array.toList_map]
      have key : ∀ (ps : List (Nat × Operand)) (vs : List (Nat × Value)), (∀ x ∈ ps, (ρ x.2).p σ κ (a.eval x.2)) → ps.map (fun x => (x.1, ρ x.2)) = vs.map (fun x => (x.1, Is x.2)) → ps.map (fun x => (x.1, a.eval x.2)) = vs := by
        intro ps
        induction ps with
        | nil => intro vs _ h; cases vs with
          | nil => rfl
          | cons _ _ => cases h
        | cons p ps ih =>
          intro vs h1 h2
          cases vs with
          | nil => cases h2
          | cons v vs =>
            simp only [List.map_cons, List.cons.injEq, Prod.mk.injEq] at h2 ⊢
            refine ⟨?_, ih vs (fun x hx => h1 x (by simp [hx])) h2.2⟩
            have h3 := h1 p (by simp)
            rw [h2.1.2] at h3
            have h3 : a.eval p.2 = v.2 := h3
            rw [h3, h2.1.1]
      exact key parts.toList vals (fun x hx => hops x.2 (by rw [ho]; simp [Op.operands]; exact ⟨x.1, by simpa using hx⟩)) hp
    refine ⟨.agg cs.toArray, ?_, cs, rfl, ?_⟩
    · unfold execOp
      rw [ho]
      simp only [hv, hrun, Sem.run_bind, Result.andThen_ok, Sem.run_pure]
    · have : ∀ l : List Value, All2 σ κ (l.map Is) l := fun l => by
        induction l with
        | nil => trivial
        | cons v l ih => exact ⟨rfl, ih⟩
      exact this cs
/-- a variable of the call's own: of known cells -/
theorem Valid.newvar {t : TypeId} (cs : List AV) (hcs : ∀ s ∈ cs.flatMap AV.sup, ∃ x ∈ o.op.operands, s ∈ (ρ x).sup)
    (hrun : ∀ σ (κ : Kw) (a : Act), (∀ x ∈ o.op.operands, (ρ x).p σ κ (a.eval x)) → ∃ us : List Value, All2 σ κ cs us ∧ (execOp a.eval o).run P κ.w = .ok (.value (.pointer (some ⟨κ.w.heap.size, 0, none⟩))) (κ.w.alloc (.cells us.toArray t))) :
    Valid P nid o ρ h ⟨Ptr (8 * nid) 0, [], [(8 * nid, some (.var t cs))]⟩ where
  run := fun base σ κ h' a next Q hops _ hr hb hsn hfr hk => by
    obtain ⟨us, hall, hv⟩ := hrun σ κ a hops
    have hid : 8 * nid / 8 = nid := by omega
    have hnone : h' (8 * nid) = none := by
      cases hx : h' (8 * nid) with
      | none => rfl
      | some c => exact absurd hid (hfr _ _ hx).1
    unfold Oper.wp
    rw [hv]
    have hall' : All2 (upd σ (8 * nid) (.pointer (some ⟨κ.w.heap.size, 0, none⟩))) (κ.new (.cells us.toArray t) (some 0)) cs us := by
      exact (hall.mono (κ.new_le _ _)).loc (fun A hA i hi => upd_other _ _ _ _ (fun e => by
        obtain ⟨x, hx, hxs⟩ := hcs i (sup_mem hA hi)
        exact hsn x hx i hxs (by omega)))
    exact hk _ (upd σ (8 * nid) (.pointer (some ⟨κ.w.heap.size, 0, none⟩))) (κ.new (.cells us.toArray t) (some 0)) (κ.new_le _ _) (fun b hb' => κ.new_old _ _ b (hb b hb')) (fun i hi => upd_other _ _ _ _ (fun e => hi (by omega)))
      ⟨κ.w.heap.size, upd_same _ _ _, rfl⟩
      (hr.set (κ.new_le _ _) (8 * nid) _ (.var t cs) (fun _ => false)
        (fun i d hd _ _ g hg => by have := κ.new_old (.cells us.toArray t) (some 0) g (blk_lt hr hd hg); exact ⟨this.2, this.1⟩)
        ⟨κ.w.heap.size, us.toArray, rfl, (κ.new_at _ _).1, by simpa using hall', (κ.new_at _ _).2⟩
        (fun i g hi _ _ hg he => by
          cases hx : h' i with
          | none => exact hi hx
          | some d =>
            have := blk_lt hr hx hg
            simp only [blk, Option.some.injEq] at he; omega)
        (fun g hg hbg => by simp only [blk, Option.some.injEq] at hg; have := hb g hbg; omega)
        (fun i d hd _ _ j hj => upd_other _ _ _ _ (fun e => (hfr i d hd).2 j hj (by omega))) _ (upd_same _ _ _) (fun i hi _ => upd_other _ _ _ _ hi) (fun i _ hf => by cases hf))
  sup := fun U hU _ => ⟨fun s hs => .inr (by have : s ∈ [8 * nid] := hs; simp at this; omega), fun i c hc s hs => by
    simp only [List.mem_singleton, Prod.mk.injEq, Option.some.injEq] at hc
    obtain ⟨_, rfl⟩ := hc
    obtain ⟨x, hx, hxs⟩ := hcs s hs
    exact .inl (hU x hx s hxs)⟩
  wr := fun x hx => by simp at hx; subst hx; exact .inr (by simp)
theorem Valid.alloc {t : TypeId} {z : Value} (cs : List Value) (ho : o.op = .alloc t) (hz : ∀ w, (zeroValue t).run P w = .ok z w) (hc : z.cells.toList = cs) :
    Valid P nid o ρ h ⟨Ptr (8 * nid) 0, [], [(8 * nid, some (.var t (cs.map Is)))]⟩ :=
  .newvar (cs.map Is) (fun s hs => by
    have : ∀ l : List Value, (l.map Is).flatMap AV.sup = [] := fun l => by induction l <;> simp_all [Is]
    rw [this] at hs; cases hs) fun σ κ a hops => by
    refine ⟨cs, ?_, ?_⟩
    · have : ∀ l : List Value, All2 σ κ (l.map Is) l := fun l => by
        induction l with
        | nil => trivial
        | cons v l ih => exact ⟨rfl, ih⟩
      exact this cs
    · have e : z.cells = cs.toArray := by rw [← hc]
      unfold execOp
      rw [ho]
      simp only [Instr.alloc, Sem.run_bind, hz, Result.andThen_ok, newVar, newRow, Sem.run_pure, newObj, Sem.run, e]
      rfl
theorem Valid.boxagg {t : TypeId} {x : Operand} {l : List AV} (ho : o.op = .box t x) (hx : ρ x = Agg l) : Valid P nid o ρ h ⟨Ptr (8 * nid) 0, [], [(8 * nid, some (.var t l))]⟩ :=
  .newvar l (fun s hs => ⟨x, by rw [ho]; simp [Op.operands], by rw [hx]; exact hs⟩) fun σ κ a hops => by
    have h1 := hops x (by rw [ho]; simp [Op.operands])
    rw [hx] at h1
    obtain ⟨us, hu, hall⟩ := h1
    refine ⟨us, hall, ?_⟩
    unfold execOp
    rw [ho]
    simp only [hu, Instr.box, newVar, newRow, Value.cells, Sem.run_bind, Sem.run_pure, Result.andThen_ok, newObj, Sem.run]
    rfl
/-- a value of one cell -/
def One (A : AV) : Prop := ∀ σ κ v, A.p σ κ v → v.oneCell' = true ∧ v.cells = #[v]
theorem One.is {A : AV} {v : Value} (h : A = Is v) (h1 : v.oneCell' = true) (h2 : v.cells = #[v]) : One A := fun σ κ u hu => by
  subst h
  have hu : u = v := hu
  rw [hu]; exact ⟨h1, h2⟩
theorem One.sl {A : AV} {e n : Nat} {xs : List Value} (h : Reads A e n xs) : One A := fun σ κ u hu => by
  obtain ⟨a, c, rfl⟩ := (h σ κ u hu).form
  exact ⟨rfl, rfl⟩
theorem One.ptr {A : AV} {id off : Nat} (h : A = Ptr id off) : One A := fun σ κ u hu => by
  subst h
  obtain ⟨b, _, rfl⟩ := hu
  exact ⟨rfl, rfl⟩
theorem One.elt {A : AV} {xs : List Value} (h : A = Elt xs) : One A := fun σ κ u hu => by
  subst h
  obtain ⟨b, rfl, _⟩ := hu
  exact ⟨rfl, rfl⟩
theorem Valid.box {t : TypeId} {x : Operand} (ho : o.op = .box t x) (hx : One (ρ x)) : Valid P nid o ρ h ⟨Ptr (8 * nid) 0, [], [(8 * nid, some (.var t [ρ x]))]⟩ :=
  .newvar [ρ x] (fun s hs => ⟨x, by rw [ho]; simp [Op.operands], by simpa using hs⟩) fun σ κ a hops => by
    have h1 := hops x (by rw [ho]; simp [Op.operands])
    obtain ⟨_, hu⟩ := hx _ _ _ h1
    refine ⟨[a.eval x], ⟨h1, trivial⟩, ?_⟩
    unfold execOp
    rw [ho]
    simp only [hu, Instr.box, newVar, newRow, Sem.run_bind, Sem.run_pure, Result.andThen_ok, newObj, Sem.run]
    rfl
theorem all2_get {σ : Names} {κ : Kw} : ∀ {l : List AV} {us : List Value} {i : Nat} {A : AV}, All2 σ κ l us → l[i]? = some A → ∃ v, us[i]? = some v ∧ A.p σ κ v
  | [], _, _, _, _, h => by simp at h
  | B :: l, [], _, _, h, _ => h.elim
  | B :: l, u :: us, 0, A, h1, h2 => by simp at h2; subst h2; exact ⟨u, rfl, h1.1⟩
  | B :: l, u :: us, i + 1, A, h1, h2 => by simpa using all2_get h1.2 (by simpa using h2)
theorem all2_drop {σ : Names} {κ : Kw} : ∀ {l : List AV} {us : List Value} (n : Nat), All2 σ κ l us → All2 σ κ (l.drop n) (us.drop n)
  | _, _, 0, h => by simpa using h
  | [], [], _ + 1, h => by simpa using h
  | _ :: _, _ :: _, n + 1, h => by simpa using all2_drop n h.2
  | [], _ :: _, _, h => h.elim
  | _ :: _, [], _, h => h.elim
theorem all2_take {σ : Names} {κ : Kw} : ∀ {l : List AV} {us : List Value} (n : Nat), All2 σ κ l us → All2 σ κ (l.take n) (us.take n)
  | _, _, 0, h => by simp [All2]
  | [], [], _ + 1, h => by simpa using h
  | _ :: _, _ :: _, n + 1, h => ⟨h.1, all2_take n h.2⟩
  | [], _ :: _, _, h => h.elim
  | _ :: _, [], _, h => h.elim
theorem all2_append {σ : Names} {κ : Kw} : ∀ {l m : List AV} {us vs : List Value}, All2 σ κ l us → All2 σ κ m vs → All2 σ κ (l ++ m) (us ++ vs)
  | [], _, [], _, _, h => h
  | _ :: _, _, _ :: _, _, h, h' => ⟨h.1, all2_append h.2 h'⟩
  | [], _, _ :: _, _, h, _ => h.elim
  | _ :: _, _, [], _, h, _ => h.elim
/-- a variable's cell -/
theorem Valid.load {t t0 : TypeId} {x : Operand} {id off : Nat} {cs : List AV} (A : AV) (ho : o.op = .load t x) (hag : ∀ w, (isAgg t).run P w = .ok false w) (hx : ρ x = Ptr id off) (hh : h id = some (.var t0 cs)) (hA : cs[off]? = some A) : Valid P nid o ρ h ⟨A, [id], []⟩ where
  run := fun base σ κ h' a next Q hops hrd hr hb _ _ hk => by
    have h1 := hops x (by rw [ho]; simp [Op.operands])
    rw [hx] at h1
    obtain ⟨b, hσ, hu⟩ := h1
    have h2 := hr.at_ id (.var t0 cs) (by rw [hrd id (by simp), hh])
    rw [hσ] at h2
    obtain ⟨b', us, e, hheap, hall, _⟩ := h2
    cases e
    obtain ⟨v, hv, hAv⟩ := all2_get hall hA
    have hrun : (execOp a.eval o).run P κ.w = .ok (.value v) κ.w := by
      have hc : κ.w.cell? ⟨b, off, none⟩ = some v := by rw [cell_of_row _ _ _ _ _ _ hheap]; simpa using hv
      unfold execOp
      rw [ho]
      simp only [hu, Instr.loadAt, Instr.sureAddr, Sem.run_bind, Sem.run_pure, Result.andThen_ok, loadVar, hag]
      simp [Go.load, Sem.run, hc, Result.andThen]
    unfold Oper.wp
    rw [hrun]
    exact hk v σ κ (Kw.le_refl κ) (fun _ _ => ⟨rfl, rfl⟩) (fun _ _ => rfl) hAv hr
  sup := fun U _ hU => ⟨fun s hs => .inl ((hU id (by simp) _ hh).2 s (sup_mem (List.mem_of_getElem? hA) hs)), fun i c hc => by cases hc⟩
  wr := fun x hx => by cases hx
/-- a variable, or a part of it -/
theorem Valid.loadagg {t t0 : TypeId} {x : Operand} {id off n : Nat} {cs : List AV} (ho : o.op = .load t x) (hag : ∀ w, (isAgg t).run P w = .ok true w) (hsz : ∀ w, (sizeOf t).run P w = .ok n w) (hx : ρ x = Ptr id off) (hh : h id = some (.var t0 cs)) (hn : off + n ≤ cs.length) :
    Valid P nid o ρ h ⟨Agg ((cs.drop off).take n), [id], []⟩ where
  run := fun base σ κ h' a next Q hops hrd hr hb _ _ hk => by
    have h1 := hops x (by rw [ho]; simp [Op.operands])
    rw [hx] at h1
    obtain ⟨b, hσ, hu⟩ := h1
    have h2 := hr.at_ id (.var t0 cs) (by rw [hrd id (by simp), hh])
    rw [hσ] at h2
    obtain ⟨b', us, e, hheap, hall, _⟩ := h2
    cases e
    have hus := hall.length
    have hrun : (execOp a.eval o).run P κ.w = .ok (.value (.agg ((us.toList.drop off).take n).toArray)) κ.w := by
      have hc := run_loadCells_list (P := P) (w := κ.w) ⟨b, off, none⟩ ((us.toList.drop off).take n) (fun j v hj => by
        rw [add_eq rfl, cell_of_row _ _ _ _ _ _ hheap]
        rw [List.getElem?_take] at hj
        split at hj
        · rw [List.getElem?_drop] at hj; simpa using hj
        · cases hj)
      have hl : ((us.toList.drop off).take n).length = n := by rw [List.length_take, List.length_drop]; omega
      rw [hl] at hc
      unfold execOp
      rw [ho]
      simp only [hu, Instr.loadAt, Instr.sureAddr, Sem.run_bind, Sem.run_pure, Result.andThen_ok, loadVar, hag, if_true, hsz, hc]
    unfold Oper.wp
    rw [hrun]
    exact hk _ σ κ (Kw.le_refl κ) (fun _ _ => ⟨rfl, rfl⟩) (fun _ _ => rfl) ⟨_, rfl, all2_take n (all2_drop off hall)⟩ hr
  sup := fun U _ hU => ⟨fun s hs => .inl ((hU id (by simp) _ hh).2 s (by
    obtain ⟨A, hA, hs⟩ := List.mem_flatMap.1 (show s ∈ ((cs.drop off).take n).flatMap AV.sup from hs)
    exact sup_mem (List.mem_of_mem_drop (List.mem_of_mem_take hA)) hs)), fun i c hc => by cases hc⟩
  wr := fun x hx => by cases hx
theorem Valid.fieldaddr {t : TypeId} {x : Operand} {f id off off' : Nat} (ho : o.op = .fieldAddr t x f) (hx : ρ x = Ptr id off) (hf : ∀ (b : Nat) (w : World), (Instr.fieldAt t (.pointer (some ⟨b, off, none⟩)) f).run P w = .ok (.pointer (some ⟨b, off', none⟩)) w) : Valid P nid o ρ h ⟨Ptr id off', [], []⟩ :=
  .quiet _ (fun s hs => ⟨x, by rw [ho]; simp [Op.operands], by rw [hx]; exact hs⟩) fun σ κ a hops => by
    have h1 := hops x (by rw [ho]; simp [Op.operands])
    rw [hx] at h1
    obtain ⟨b, hσ, hu⟩ := h1
    refine ⟨_, ?_, b, hσ, rfl⟩
    unfold execOp
    rw [ho]
    simp only [hu, hf, Sem.run_bind, Result.andThen_ok, Sem.run_pure]
/-- a field of a value -/
theorem Valid.field {t : TypeId} {x : Operand} {f off : Nat} {l : List AV} (A : AV) (ho : o.op = .field t x f) (hx : ρ x = Agg l) (hA : l[off]? = some A) (hf : ∀ (us : List Value) (v : Value) (w : World), us[off]? = some v → us.length = l.length → (Instr.field t (.agg us.toArray) f).run P w = .ok v w) : Valid P nid o ρ h ⟨A, [], []⟩ :=
  .quiet _ (fun s hs => ⟨x, by rw [ho]; simp [Op.operands], by rw [hx]; exact sup_mem (List.mem_of_getElem? hA) hs⟩) fun σ κ a hops => by
    have h1 := hops x (by rw [ho]; simp [Op.operands])
    rw [hx] at h1
    obtain ⟨us, hu, hall⟩ := h1
    obtain ⟨v, hv, hAv⟩ := all2_get hall hA
    refine ⟨v, ?_, hAv⟩
    unfold execOp
    rw [ho]
    simp only [hu, hf us v κ.w hv hall.length, Sem.run_bind, Result.andThen_ok, Sem.run_pure]
/-- a store of these cells -/
theorem Valid.storeL {t t0 : TypeId} {x y : Operand} {id off : Nat} {cs new : List AV} (ho : o.op = .store t x y) (hsz : ∀ w, (sizeOf t).run P w = .ok new.length w) (hx : ρ x = Ptr id off) (hh : h id = some (.var t0 cs)) (hn : off + new.length ≤ cs.length)
    (hy : ∀ σ κ v, (ρ y).p σ κ v → ∃ us : List Value, v.cells.toList = us ∧ All2 σ κ new us ∧ ∀ u ∈ us, u.oneCell' = true) (hs0 : ∀ s ∈ new.flatMap AV.sup, s ∈ (ρ y).sup) :
    Valid P nid o ρ h ⟨Is undef, [id], [(id, some (.var t0 (cs.take off ++ new ++ cs.drop (off + new.length))))]⟩ where
  run := fun base σ κ h' a next Q hops hrd hr hb _ _ hk => by
    have h1 := hops x (by rw [ho]; simp [Op.operands])
    rw [hx] at h1
    obtain ⟨b, hσ, hu⟩ := h1
    have hid : h' id = some (.var t0 cs) := by rw [hrd id (by simp), hh]
    have h2 := hr.at_ id (.var t0 cs) hid
    rw [hσ] at h2
    obtain ⟨b', us, e, hheap, hall, hown⟩ := h2
    cases e
    have hus := hall.length
    obtain ⟨vs, hvs, hnew, hone⟩ := hy σ κ _ (hops y (by rw [ho]; simp [Op.operands]))
    have hvl := hnew.length
    have hst := run_storeCells_at P b off t0 vs 0 us κ.w hheap (by simp only [Array.length_toList] at hus; omega) hone
    simp only [Nat.add_zero] at hst
    have hsize : (a.eval y).cells.size = new.length := by rw [← hvl, ← hvs]; simp
    have hlt : b < κ.w.heap.size := κ.lt b 0 hown
    have hbb : ¬ base b := hr.base id _ b hid (by rw [hσ]; rfl)
    let κ' : Kw := ⟨κ.w.setRow b (us.toList.take off ++ vs ++ us.toList.drop (off + vs.length)).toArray, κ.own, fun g k hg => by rw [size_setRow]; exact κ.lt g k hg⟩
    have hle : κ.le κ' := ⟨rfl, rfl, rfl, by show κ.w.heap.size ≤ _; rw [size_setRow]; exact Nat.le_refl _,
      fun g _ hg => ⟨hg, setRow_other _ _ _ _ (fun e => by subst e; rw [hown] at hg; cases hg)⟩,
      fun g k hg => ⟨fun k' hk' => by have : κ.own g = some k' := hk'; rw [hg] at this; cases this; exact Nat.le_refl _, fun j u hj hu => by
        have hgb : g ≠ b := fun e => by subst e; rw [hown] at hg; cases hg; omega
        simp only [World.cell?] at hu ⊢
        rw [show κ'.w.heap[g]? = κ.w.heap[g]? from setRow_other _ _ _ _ hgb]
        exact hu⟩⟩
    have hrun : (execOp a.eval o).run P κ.w = .ok .skip κ'.w := by
      unfold execOp
      rw [ho]
      simp only [hu, Instr.storeAt, Instr.sureAddr, Sem.run_bind, Sem.run_pure, Result.andThen_ok, storeVar, hsz, hsize, ne_eq, not_true_eq_false, if_false, hvs, hst]
      rfl
    unfold Oper.wp
    rw [hrun]
    have hupd : upd σ id (σ id) = σ := by
      funext i
      by_cases e : i = id
      · subst e; rw [upd_same]
      · rw [upd_other _ _ _ _ e]
    have hres := hr.set hle id (σ id) (.var t0 (cs.take off ++ new ++ cs.drop (off + new.length))) (fun _ => false)
        (fun i d hd hne _ g hg => ⟨setRow_other _ _ _ _ (fun e => by subst e; exact hr.far i id g hne (by rw [hd]; simp) (by rw [hid]; simp) hg (by rw [hσ]; rfl)), rfl⟩)
        (by
          rw [hupd]
          refine ⟨b, _, hσ, setRow_heap _ _ _ _ _ _ hheap, ?_, hown⟩
          have := all2_append (all2_append (all2_take off hall) hnew) (all2_drop (off + new.length) hall)
          rw [← hvl] at this ⊢
          exact this.mono hle)
        (fun i g hi hne _ hg => by
          rw [hσ]
          exact fun e => hr.far i id g hne hi (by rw [hid]; simp) hg (by rw [hσ]; exact e))
        (fun g hg => hr.base id _ g hid hg)
        (fun i d hd hne _ j hj => by rw [hupd]) (updl h' [(id, some (.var t0 (cs.take off ++ new ++ cs.drop (off + new.length))))]) (upd_same _ _ _) (fun i hi _ => upd_other _ _ _ _ hi) (fun i _ hf => by cases hf)
    rw [hupd] at hres
    exact hk undef σ κ' hle (fun g hg => ⟨rfl, setRow_other _ _ _ _ (fun e => hbb (e ▸ hg))⟩) (fun _ _ => rfl) rfl hres
  sup := fun U hV hU => ⟨nosup rfl, fun i c hc s hs => by
    simp only [List.mem_singleton, Prod.mk.injEq, Option.some.injEq] at hc
    obtain ⟨_, rfl⟩ := hc
    obtain ⟨A, hA, hs⟩ := List.mem_flatMap.1 (show s ∈ (cs.take off ++ new ++ cs.drop (off + new.length)).flatMap AV.sup from hs)
    rcases List.mem_append.1 hA with hA | hA
    · rcases List.mem_append.1 hA with hA | hA
      · exact .inl ((hU id (by simp) _ hh).2 s (sup_mem (List.mem_of_mem_take hA) hs))
      · exact .inl (hV y (by rw [ho]; simp [Op.operands]) s (hs0 s (sup_mem hA hs)))
    · exact .inl ((hU id (by simp) _ hh).2 s (sup_mem (List.mem_of_mem_drop hA) hs))⟩
  wr := fun x hx => by simp at hx; subst hx; exact .inl ⟨by simp, by rw [hh]; simp⟩
theorem Valid.store {t t0 : TypeId} {x y : Operand} {id off : Nat} {cs : List AV} (ho : o.op = .store t x y) (hsz : ∀ w, (sizeOf t).run P w = .ok 1 w) (hx : ρ x = Ptr id off) (hh : h id = some (.var t0 cs)) (hn : off + 1 ≤ cs.length) (hy : One (ρ y)) :
    Valid P nid o ρ h ⟨Is undef, [id], [(id, some (.var t0 (cs.take off ++ [ρ y] ++ cs.drop (off + 1))))]⟩ :=
  .storeL ho hsz hx hh hn (fun σ κ v hv => ⟨[v], by rw [(hy σ κ v hv).2], ⟨hv, trivial⟩, fun u hu => by simp at hu; subst hu; exact (hy σ κ _ hv).1⟩) (fun s hs => by simpa using hs)
def Ones : List AV → Prop
  | [] => True
  | A :: l => One A ∧ Ones l
theorem Ones.one {σ : Names} {κ : Kw} : ∀ {l : List AV} {us : List Value}, Ones l → All2 σ κ l us → ∀ u ∈ us, u.oneCell' = true
  | A :: l, v :: us, ⟨h1, h2⟩, ⟨h3, h4⟩, u, hu => by
    rcases List.mem_cons.1 hu with rfl | hu
    · exact (h1 _ _ _ h3).1
    · exact Ones.one h2 h4 u hu
  | [], [], _, _, u, hu => by cases hu
  | [], _ :: _, _, h, _, _ => h.elim
  | _ :: _, [], _, h, _, _ => h.elim
theorem Valid.storeagg {t t0 : TypeId} {x y : Operand} {id off : Nat} {cs l : List AV} (ho : o.op = .store t x y) (hsz : ∀ w, (sizeOf t).run P w = .ok l.length w) (hx : ρ x = Ptr id off) (hh : h id = some (.var t0 cs)) (hn : off + l.length ≤ cs.length) (hy : ρ y = Agg l) (h1 : Ones l) :
    Valid P nid o ρ h ⟨Is undef, [id], [(id, some (.var t0 (cs.take off ++ l ++ cs.drop (off + l.length))))]⟩ :=
  .storeL ho hsz hx hh hn (fun σ κ v hv => by
    rw [hy] at hv
    obtain ⟨us, rfl, hall⟩ := hv
    exact ⟨us, rfl, hall, h1.one hall⟩) (fun s hs => by rw [hy]; exact hs)
/-! ### append -/
theorem Kw.drew_le (κ : Kw) : κ.le ⟨κ.w.drew, κ.own, κ.lt⟩ := ⟨rfl, rfl, rfl, Nat.le_refl _, fun _ _ h => ⟨h, rfl⟩, fun b k h => ⟨fun k' h' => by have : κ.own b = some k' := h'; rw [h] at this; cases this; exact Nat.le_refl _, fun _ _ _ h => h⟩⟩
/-- what append comes to: a row of the call's own, grown where it was or laid anew -/
theorem append_step (t ty el : TypeId) (i : TypeInfo) (z : Value) (e bytes : Nat) (ht : P.underlying t = some (.slice el)) (hi : P.info? el = some i) (hz : i.zero = some z) (hsize : i.size = e) (hby : i.bytes = bytes) (hzs : z.cells.size = e) (_hsz : 0 < e)
    {κ : Kw} {v : Value} {n : Nat} {xs : List Value} (hown : κ.w.ownsRow 0 el e v n xs) (hg : ∀ g, blk v = some g → κ.own g = some (n * e)) {u : Value} {m : Nat} {ys : List Value} (hu : SlP κ e m ys u) (h1 : ∀ y ∈ ys, y.oneCell' = true) (hm : n + m ≤ maxLen) (hb : (n + m) * bytes ≤ 140737488355328) :
    ∃ v' κ', (Builtin.append_ #[t, t] ty #[v, u]).run P κ.w = .ok v' κ'.w ∧ κ.le κ' ∧ κ'.w.ownsRow 0 el e v' (n + m) (xs ++ ys) ∧ (∀ g, blk v' = some g → κ'.own g = some ((n + m) * e)) ∧
      (∀ b, b < κ.w.heap.size → blk v ≠ some b → κ'.own b = κ.own b ∧ κ'.w.heap[b]? = κ.w.heap[b]?) ∧ (∀ g, blk v' = some g → blk v = some g ∨ g = κ.w.heap.size) := by
  have hlen : (xs ++ ys).length = (n + m) * e := by rw [List.length_append, hown.1, hu.1, Nat.add_mul]
  have laid : ∀ (cur : Array Value) (cap : Nat), cap ≤ maxLen → n + m ≤ cap → cur.size = cap * e → cur.toList.take ((n + m) * e) = xs ++ ys →
      ∃ κ' : Kw, κ'.w = κ.w.drew.alloc (.cells cur el) ∧ κ.le κ' ∧ κ'.w.ownsRow 0 el e (.slice (some ⟨κ.w.heap.size, 0, none⟩) (n + m) cap) (n + m) (xs ++ ys) ∧ κ'.own κ.w.heap.size = some ((n + m) * e) ∧ (∀ b, b < κ.w.heap.size → κ'.own b = κ.own b ∧ κ'.w.heap[b]? = κ.w.heap[b]?) := by
    intro cur cap h2 h3 h4 h5
    let κd : Kw := ⟨κ.w.drew, κ.own, κ.lt⟩
    refine ⟨κd.new (.cells cur el) (some ((n + m) * e)), rfl, Kw.le_trans κ.drew_le (κd.new_le _ _), ⟨hlen, .inr ⟨κ.w.heap.size, cap, cur, rfl, Nat.zero_le _, (κd.new_at _ _).1, h3, h2, h4, h5⟩⟩, (κd.new_at _ _).2, fun b hb => κd.new_old _ _ b hb⟩
  obtain ⟨hul, ⟨rfl, rfl⟩ | ⟨ad, c, rfl, hc1, hc2, hrd⟩⟩ := hu
  · have hys : ys = [] := List.eq_nil_of_length_eq_zero (by simpa using hul)
    subst hys
    refine ⟨v, κ, ?_, Kw.le_refl κ, by simpa using hown, by simpa using hg, fun _ _ _ => ⟨rfl, rfl⟩, fun g hg => .inl hg⟩
    rcases hown.2 with ⟨rfl, rfl⟩ | ⟨g, cap, cur, rfl, _, _, hnc, _⟩
    · simp [Builtin.append_, run_underlying ht, sizeOf, typeInfo, hi, Builtin.lenOf, Builtin.firstCells]
    · simp [Builtin.append_, run_underlying ht, sizeOf, typeInfo, hi, Builtin.lenOf, Builtin.firstCells, hnc, storeCells]
  · have hnews : ∀ j y, ys[j]? = some y → κ.w.cell? (ad.add j) = some y := fun j y hj => by
      obtain ⟨s1, s2, _⟩ := hrd j y hj
      rw [add_eq s1]; exact s2
    have hul' : ys.length = m * i.size := by rw [hsize]; exact hul
    have hm' : ((n + m : Nat) : Int) ≤ 9223372036854775807 := by unfold maxLen at hm; omega
    rcases hown.2 with ⟨rfl, rfl⟩ | ⟨g, cap, cur, rfl, _, hheap, hnc, hcm, hcs, htake⟩
    · have hxs : xs = [] := List.eq_nil_of_length_eq_zero (by simpa using hown.1)
      subst hxs
      by_cases hm0 : m = 0
      · subst hm0
        have hys : ys = [] := List.eq_nil_of_length_eq_zero (by simpa using hul)
        subst hys
        refine ⟨.slice none 0 0, κ, ?_, Kw.le_refl κ, World.ownsRow_nil κ.w 0 el e, (fun g hg => by cases hg), fun _ _ _ => ⟨rfl, rfl⟩, fun g hg => by cases hg⟩
        simp [Builtin.append_, run_underlying ht, sizeOf, typeInfo, hi, Builtin.lenOf, Builtin.firstCells, loadCells, loadCellsFrom]
      · have hr := run_append_nil (P := P) κ.w t ty el i z ht hi hz ad m c ys hul' hnews (by omega) (by unfold maxLen at hm; omega) (by rw [hby]; simp only [Nat.zero_add] at hb; omega)
        have hge := grownCap_ge κ.w m 0 el
        obtain ⟨κ', hw, hle, how, hon, hold⟩ := laid (ys.toArray ++ Builtin.zeroCells z.cells (grownCap κ.w m 0 el - m)) (grownCap κ.w m 0 el) (grownCap_le_maxLen κ.w m 0 el (by simpa using hm)) (by omega)
          (by simp only [Array.size_append, List.size_toArray, size_zeroCells, hzs, hul, ← Nat.add_mul]; congr 1; omega)
          (by simp only [Array.toList_append]; rw [← hlen]; simp)
        refine ⟨_, κ', by rw [hw]; exact hr, hle, by simpa using how, fun g hg => ?_, fun b hb _ => hold b hb, fun g hg => ?_⟩
        · simp only [blk, Option.some.injEq] at hg; subst hg; exact hon
        · simp only [blk, Option.some.injEq] at hg; exact .inr hg.symm
    · by_cases hroom : n + m ≤ cap
      · have hfit : n * i.size + ys.length ≤ cur.size := by rw [hul', hcs, hsize, ← Nat.add_mul]; exact Nat.mul_le_mul_right _ hroom
        have hr := run_append_room (P := P) κ.w t ty el i ht hi g n cap cur hheap ad m c ys hul' hnews h1 hroom hfit
        have hgo : κ.own g = some (n * e) := hg g rfl
        let κ' : Kw := ⟨κ.w.setRow g (cur.toList.take (n * i.size) ++ ys ++ cur.toList.drop (n * i.size + ys.length)).toArray, fun b => if b = g then some ((n + m) * e) else κ.own b, fun b k hb => by
          rw [size_setRow]
          split at hb
          · rename_i e; subst e; exact κ.lt b _ hgo
          · exact κ.lt b k hb⟩
        have hcells : κ'.w.heap[g]? = some (.cells (cur.toList.take (n * i.size) ++ ys ++ cur.toList.drop (n * i.size + ys.length)).toArray el (0, 0)) := setRow_heap _ _ _ _ _ _ hheap
        refine ⟨_, κ', hr, ⟨rfl, rfl, rfl, by show κ.w.heap.size ≤ _; rw [size_setRow]; exact Nat.le_refl _, fun b _ hb => ?_, fun b k hb => ?_⟩, ⟨hlen, .inr ⟨g, cap, _, rfl, Nat.zero_le _, hcells, hroom, hcm, ?_, ?_⟩⟩, fun b hb => ?_, fun b _ hne => ?_, fun b hb => .inl hb⟩
        · have hbg : b ≠ g := fun e => by subst e; rw [hgo] at hb; cases hb
          exact ⟨by simp [κ', hbg, hb], setRow_other _ _ _ _ hbg⟩
        · by_cases hbg : b = g
          · subst hbg
            rw [hgo] at hb; cases hb
            refine ⟨fun k' hk' => ?_, fun j u hj hu => ?_⟩
            · simp only [κ', if_pos] at hk'
              cases hk'
              exact Nat.mul_le_mul_right _ (by omega)
            · rw [cell_of_row _ _ _ _ _ _ hheap] at hu
              rw [cell_of_row _ _ _ _ _ _ hcells]
              rw [← hu]
              simp only [List.getElem?_toArray, List.append_assoc]
              rw [List.getElem?_append_left (by rw [List.length_take, Array.length_toList, hsize]; have : n * e ≤ cur.size := by rw [hcs]; exact Nat.mul_le_mul_right _ hnc
                                                omega), List.getElem?_take_of_lt (by rw [hsize]; exact hj)]
              simp
          · refine ⟨fun k' hk' => ?_, fun j u _ hu => ?_⟩
            · simp only [κ', if_neg hbg] at hk'
              rw [hb] at hk'; cases hk'; exact Nat.le_refl _
            · simp only [World.cell?] at hu ⊢
              rw [show κ'.w.heap[b]? = κ.w.heap[b]? from setRow_other _ _ _ _ hbg]
              exact hu
        · simp only [List.size_toArray, List.length_append, List.length_take, List.length_drop, Array.length_toList]
          omega
        · show List.take _ (_ ++ ys ++ _) = _
          rw [hsize, htake, ← hlen]
          exact List.take_left
        · simp only [blk, Option.some.injEq] at hb
          subst hb
          simp [κ']
        · have hbg : b ≠ g := fun e => hne (by rw [e]; rfl)
          exact ⟨by simp [κ', hbg], setRow_other _ _ _ _ hbg⟩
      · have holds : ∀ j u, xs[j]? = some u → κ.w.cell? ((⟨g, 0, none⟩ : Addr).add j) = some u := hown.cells (g := g) rfl
        have hr := run_append_grow (P := P) κ.w t ty el i z ht hi hz ⟨g, 0, none⟩ n cap xs (by rw [hsize]; exact hown.1) holds ad m c ys hul' hnews (by omega) hm' (growslice_fits (by omega) (by rw [hby]; exact hb))
        have hge := grownCap_ge κ.w (n + m) cap el
        obtain ⟨κ', hw, hle, how, hon, hold⟩ := laid (xs.toArray ++ ys.toArray ++ Builtin.zeroCells z.cells (grownCap κ.w (n + m) cap el - (n + m))) (grownCap κ.w (n + m) cap el) (grownCap_le_maxLen κ.w (n + m) cap el hm) hge
          (by simp only [Array.size_append, List.size_toArray, size_zeroCells, hzs, hown.1, hul, ← Nat.add_mul]; congr 1; omega)
          (by simp only [Array.toList_append, List.append_assoc]; rw [← List.append_assoc, ← hlen]; exact List.take_left)
        refine ⟨_, κ', by rw [hw]; exact hr, hle, how, fun b hb => ?_, fun b hb _ => hold b hb, fun b hb => ?_⟩
        · simp only [blk, Option.some.injEq] at hb; subst hb; exact hon
        · simp only [blk, Option.some.injEq] at hb; exact .inr hb.symm
theorem own_sl {κ : Kw} {el : TypeId} {e n : Nat} {v : Value} {xs : List Value} (h : κ.w.ownsRow 0 el e v n xs) (hg : ∀ g, blk v = some g → κ.own g = some (n * e)) : SlP κ e n xs v := by
  obtain ⟨hl, h | ⟨g, cap, cur, rfl, _, hheap, h1, h2, h3, h4⟩⟩ := h
  · exact ⟨hl, .inl h⟩
  · refine ⟨hl, .inr ⟨_, cap, rfl, h1, h2, fun j u hj => ⟨rfl, ?_, fun k hk => ?_⟩⟩⟩
    · rw [cell_of_row _ _ _ _ _ _ hheap]
      rw [← h4, List.getElem?_take] at hj
      split at hj
      · simpa using hj
      · cases hj
    · have := hg g rfl
      rw [this] at hk; cases hk
      have hjl := (List.getElem?_eq_some_iff.1 hj).1
      simp only [Nat.zero_add]; omega
/-- 'append' onto a row of the call's own -/
theorem Valid.append {x y : Operand} {t el : TypeId} {i : TypeInfo} {z : Value} {id e n m bytes : Nat} {xs ys : List Value} (ho : o.op = .call { callee := .builtin .append, args := #[x, y], argTypes := #[t, t] })
    (ht : P.underlying t = some (.slice el)) (hi : P.info? el = some i) (hz : i.zero = some z) (hsize : i.size = e) (hby : i.bytes = bytes) (hzs : z.cells.size = e) (hsz : 0 < e)
    (hx : ρ x = Own id e n xs) (hh : h id = some (.row el e n xs)) (hy : Reads (ρ y) e m ys) (h1 : ∀ u ∈ ys, u.oneCell' = true) (hm : n + m ≤ maxLen) (hb : (n + m) * bytes ≤ 140737488355328) :
    Valid P nid o ρ h ⟨Own (8 * nid) e (n + m) (xs ++ ys), [id], [(id, none), (8 * nid, some (.row el e (n + m) (xs ++ ys)))]⟩ where
  run := fun base σ κ h' a next Q hops hrd hr hbase _ hfr hk => by
    have e1 := hops x (by rw [ho]; simp [Op.operands, Call.operands])
    have e2 := hy σ κ _ (hops y (by rw [ho]; simp [Op.operands, Call.operands]))
    rw [hx] at e1
    have hid : h' id = some (.row el e n xs) := by rw [hrd id (by simp), hh]
    have e3 := hr.at_ id _ hid
    have hid8 : 8 * nid / 8 = nid := by omega
    have hne : id ≠ 8 * nid := fun e => (hfr id _ hid).1 (by rw [e]; exact hid8)
    obtain ⟨v', κ', hrun, hle, how, hon, hold, hv'⟩ := append_step t o.type el i z e bytes ht hi hz hsize hby hzs hsz e3.1 e3.2 e2 h1 hm hb
    have hrun' : (execOp a.eval o).run P κ.w = .ok (.value v') κ'.w := by
      have e1' : a.eval x = σ id := e1.1
      unfold execOp
      rw [ho]
      simp only [resolve, invoke, builtin, Sem.run_bind, Sem.run_pure, Result.andThen_ok, List.map_toArray, List.map_cons, List.map_nil, e1', hrun]
    unfold Oper.wp
    rw [hrun']
    refine hk v' (upd σ (8 * nid) v') κ' hle (fun b hb' => hold b (hbase b hb') (fun e => ?_)) (fun i hi => upd_other _ _ _ _ (fun e => hi (by omega))) ⟨(upd_same _ _ _).symm, own_sl how hon⟩ ?_
    · exact hr.base id _ b hid e hb'
    · refine hr.set hle (8 * nid) v' (.row el e (n + m) (xs ++ ys)) (fun i => Nat.beq i id) (fun i d hd hi hgone g hg => ?_) ⟨how, hon⟩ (fun i g hi hi8 hgone hg he => ?_) (fun g hg => ?_) (fun i d hd _ _ j hj => upd_other _ _ _ _ (fun e => (hfr i d hd).2 j hj (by omega))) _ ?_ ?_ ?_
      · have hiid : i ≠ id := fun e => by subst e; simp at hgone
        have := hold g (blk_lt hr hd hg) (fun e => hr.far i id g hiid (by rw [hd]; simp) (by rw [hid]; simp) hg e)
        exact ⟨this.2, this.1⟩
      · have hiid : i ≠ id := fun e => by subst e; simp at hgone
        cases hd : h' i with
        | none => exact hi hd
        | some d =>
          rcases hv' g he with h2 | h2
          · exact hr.far i id g hiid hi (by rw [hid]; simp) hg h2
          · have := blk_lt hr hd hg; omega
      · rcases hv' g hg with h2 | h2
        · exact hr.base id _ g hid h2
        · intro hbg; have := hbase g hbg; omega
      · simp only [updl]; exact upd_same _ _ _
      · intro i hi hgone
        have hiid : i ≠ id := fun e => by subst e; simp at hgone
        simp only [updl]
        rw [upd_other _ _ _ _ hi, upd_other _ _ _ _ hiid]
      · intro i hi hgone
        have hiid : i = id := Nat.eq_of_beq_eq_true hgone
        subst hiid
        simp only [updl]
        rw [upd_other _ _ _ _ hi, upd_same]
  sup := fun U _ _ => ⟨fun s hs => .inr (by have : s ∈ [8 * nid] := hs; simp at this; omega), fun i c hc s hs => by
    simp only [List.mem_cons, Prod.mk.injEq, List.not_mem_nil, or_false] at hc
    rcases hc with ⟨_, hc⟩ | ⟨_, hc⟩
    · cases hc
    · cases hc; cases hs⟩
  wr := fun x hx => by
    simp only [List.mem_cons, List.not_mem_nil, or_false] at hx
    rcases hx with rfl | rfl
    · exact .inl ⟨by simp, by rw [hh]; simp⟩
    · exact .inr (by simp)
/-- 'append' onto nil -/
theorem Valid.appendnil {x y : Operand} {t el : TypeId} {i : TypeInfo} {z : Value} {e m bytes : Nat} {ys : List Value} (ho : o.op = .call { callee := .builtin .append, args := #[x, y], argTypes := #[t, t] })
    (ht : P.underlying t = some (.slice el)) (hi : P.info? el = some i) (hz : i.zero = some z) (hsize : i.size = e) (hby : i.bytes = bytes) (hzs : z.cells.size = e) (hsz : 0 < e)
    (hx : ρ x = Is (.slice none 0 0)) (hy : Reads (ρ y) e m ys) (h1 : ∀ u ∈ ys, u.oneCell' = true) (hm : m ≤ maxLen) (hb : m * bytes ≤ 140737488355328) :
    Valid P nid o ρ h ⟨Own (8 * nid) e m ys, [], [(8 * nid, some (.row el e m ys))]⟩ where
  run := fun base σ κ h' a next Q hops hrd hr hbase _ hfr hk => by
    have e1 := hops x (by rw [ho]; simp [Op.operands, Call.operands])
    have e2 := hy σ κ _ (hops y (by rw [ho]; simp [Op.operands, Call.operands]))
    rw [hx] at e1
    have e1 : a.eval x = .slice none 0 0 := e1
    have hid8 : 8 * nid / 8 = nid := by omega
    obtain ⟨v', κ', hrun, hle, how, hon, hold, hv'⟩ := append_step (P := P) (κ := κ) (v := .slice none 0 0) (n := 0) (xs := []) t o.type el i z e bytes ht hi hz hsize hby hzs hsz (World.ownsRow_nil κ.w 0 el e) (fun g hg => by cases hg) e2 h1 (by simpa using hm) (by simpa using hb)
    simp only [Nat.zero_add, List.nil_append] at how hon
    have hrun' : (execOp a.eval o).run P κ.w = .ok (.value v') κ'.w := by
      unfold execOp
      rw [ho]
      simp only [resolve, invoke, builtin, Sem.run_bind, Sem.run_pure, Result.andThen_ok, List.map_toArray, List.map_cons, List.map_nil, e1, hrun]
    have hv'' : ∀ g, blk v' = some g → g = κ.w.heap.size := fun g hg => by
      rcases hv' g hg with h2 | h2
      · cases h2
      · exact h2
    unfold Oper.wp
    rw [hrun']
    refine hk v' (upd σ (8 * nid) v') κ' hle (fun b hb' => hold b (hbase b hb') (fun e => by cases e)) (fun i hi => upd_other _ _ _ _ (fun e => hi (by omega))) ⟨(upd_same _ _ _).symm, own_sl how hon⟩ ?_
    refine hr.set hle (8 * nid) v' (.row el e m ys) (fun _ => false) (fun i d hd hi _ g hg => ?_) ⟨how, hon⟩ (fun i g hi hi8 _ hg he => ?_) (fun g hg => ?_) (fun i d hd _ _ j hj => upd_other _ _ _ _ (fun e => (hfr i d hd).2 j hj (by omega))) _ (upd_same _ _ _) (fun i hi _ => upd_other _ _ _ _ hi) (fun i _ hf => by cases hf)
    · have := hold g (blk_lt hr hd hg) (fun e => by cases e)
      exact ⟨this.2, this.1⟩
    · cases hd : h' i with
      | none => exact hi hd
      | some d =>
        have h2 := hv'' g he
        have := blk_lt hr hd hg; omega
    · have h2 := hv'' g hg; intro hbg; have := hbase g hbg; omega
  sup := fun U _ _ => ⟨fun s hs => .inr (by have : s ∈ [8 * nid] := hs; simp at this; omega), fun i c hc s hs => by
    simp only [List.mem_singleton, Prod.mk.injEq, Option.some.injEq] at hc
    obtain ⟨_, rfl⟩ := hc
    cases hs⟩
  wr := fun x hx => by simp at hx; subst hx; exact .inr (by simp)
/-- '[]byte(s)' -/
theorem Valid.tobytes {x : Operand} {t st el : TypeId} {s : ByteArray} (ho : o.op = .convert st t x) (ht : P.underlying t = some (.slice el)) (he : P.underlying el = some (.int .u8)) (hst : P.underlying st = some .string) (hx : ρ x = Is (.string s)) (hs : s.size ≤ maxLen) :
    Valid P nid o ρ h ⟨Sl 1 s.size (s.data.toList.map B), [], []⟩ :=
  .fresh _ rfl fun σ κ a hops => by
    have h1 := hops x (by rw [ho]; simp [Op.operands])
    rw [hx] at h1
    have h1 : a.eval x = .string s := h1
    have hrun := run_bytes_of_string (P := P) κ.w st t el s hst ht he
    have hge := grownCap_ge κ.w s.size 0 el
    let κd : Kw := ⟨κ.w.drew, κ.own, κ.lt⟩
    refine ⟨_, κd.new (.cells (bytesRow s (grownCap κ.w s.size 0 el)) el ((bytesRow s (grownCap κ.w s.size 0 el)).size, (bytesRow s (grownCap κ.w s.size 0 el)).size + 1)) none, ?_, Kw.le_trans κ.drew_le (κd.new_le _ _), fun b hb => κd.new_old _ _ b hb, ⟨by rw [List.length_map, Nat.mul_one]; rfl, .inr ⟨⟨κ.w.heap.size, 0, none⟩, grownCap κ.w s.size 0 el, rfl, hge, grownCap_le_maxLen κ.w s.size 0 el hs, fun j u hj => ⟨rfl, ?_, fun k hk => ?_⟩⟩⟩⟩
    · unfold execOp
      rw [ho]
      simp only [h1, hrun, Sem.run_bind, Result.andThen_ok, Sem.run_pure]
      rfl
    · have hjs : j < s.data.toList.length := by
        have := (List.getElem?_eq_some_iff.1 hj).1
        simpa using this
      have hjs' : j < s.data.size := by simpa using hjs
      have hat := (κd.new_at (.cells (bytesRow s (grownCap κ.w s.size 0 el)) el ((bytesRow s (grownCap κ.w s.size 0 el)).size, (bytesRow s (grownCap κ.w s.size 0 el)).size + 1)) none).1
      show World.cell? _ ⟨κd.w.heap.size, 0 + j, none⟩ = some u
      rw [cell_of_row _ _ _ _ _ _ hat, ← hj]
      simp only [bytesRow, Nat.zero_add]
      rw [Array.getElem?_append_left (by simpa using hjs')]
      simp []; rfl
    · have : (κd.new (.cells (bytesRow s (grownCap κ.w s.size 0 el)) el ((bytesRow s (grownCap κ.w s.size 0 el)).size, (bytesRow s (grownCap κ.w s.size 0 el)).size + 1)) none).own κ.w.heap.size = none := (κd.new_at _ _).2
      rw [this] at hk; cases hk
end
/-! ### a function's contract -/
def resOne (tmps : Array Value) : ResultVar → Sem Value
  | .tmp t => pure (tmps.getD t undef)
  | .cell a t => do loadVar t (← asAddr (tmps.getD a undef))
def RVal (P : Program) (st : St) (r : ResultVar) (A : AV) : Prop := ∀ X a σ κ, RK X (fun s => s / 8 < st.cnt) st.env st.heap a σ κ → ∃ v, (resOne a.tmps r).run P κ.w = .ok v κ.w ∧ A.p σ κ v
theorem RVal.tmp {P : Program} {st : St} {t : Tmp} {A : AV} (h : ∀ σ κ v, (st.env t).p σ κ v → A.p σ κ v) : RVal P st (.tmp t) A := fun _X _a _σ _κ hR => ⟨_, rfl, h _ _ _ (hR.env_ t)⟩
theorem RVal.cell {P : Program} {st : St} {t : Tmp} {ty t0 : TypeId} {id off : Nat} {cs : List AV} {B A : AV} (hag : ∀ w, (isAgg ty).run P w = .ok false w) (hx : st.env t = Ptr id off) (hh : st.heap id = some (.var t0 cs)) (hB : cs[off]? = some B) (h : ∀ σ κ v, B.p σ κ v → A.p σ κ v) : RVal P st (.cell t ty) A := fun X a σ κ hR => by
  have h1 := hR.env_ t
  rw [hx] at h1
  obtain ⟨b, hσ, hu⟩ := h1
  have h2 := hR.hr.at_ id _ hh
  rw [hσ] at h2
  obtain ⟨b', us, e, hheap, hall, _⟩ := h2
  cases e
  obtain ⟨v, hv, hBv⟩ := all2_get hall hB
  refine ⟨v, ?_, h _ _ _ hBv⟩
  have hc : κ.w.cell? ⟨b, off, none⟩ = some v := by rw [cell_of_row _ _ _ _ _ _ hheap]; simpa using hv
  simp only [resOne, hu, asAddr, Sem.run_bind, Sem.run_pure, Result.andThen_ok, loadVar, hag]
  simp [Go.load, Sem.run, hc]
theorem RVal.cellagg {P : Program} {st : St} {t : Tmp} {ty t0 : TypeId} {id off n : Nat} {cs : List AV} {A : AV} (hag : ∀ w, (isAgg ty).run P w = .ok true w) (hsz : ∀ w, (sizeOf ty).run P w = .ok n w) (hx : st.env t = Ptr id off) (hh : st.heap id = some (.var t0 cs)) (hn : off + n ≤ cs.length) (h : ∀ σ κ v, (Agg ((cs.drop off).take n)).p σ κ v → A.p σ κ v) : RVal P st (.cell t ty) A := fun X a σ κ hR => by
  have h1 := hR.env_ t
  rw [hx] at h1
  obtain ⟨b, hσ, hu⟩ := h1
  have h2 := hR.hr.at_ id _ hh
  rw [hσ] at h2
  obtain ⟨b', us, e, hheap, hall, _⟩ := h2
  cases e
  have hus := hall.length
  refine ⟨.agg ((us.toList.drop off).take n).toArray, ?_, h _ _ _ ⟨_, rfl, all2_take n (all2_drop off hall)⟩⟩
  have hc := run_loadCells_list (P := P) (w := κ.w) ⟨b, off, none⟩ ((us.toList.drop off).take n) (fun j v hj => by
    rw [add_eq rfl, cell_of_row _ _ _ _ _ _ hheap]
    rw [List.getElem?_take] at hj
    split at hj
    · rw [List.getElem?_drop] at hj; simpa using hj
    · cases hj)
  have hl : ((us.toList.drop off).take n).length = n := by rw [List.length_take, List.length_drop]; omega
  rw [hl] at hc
  simp only [resOne, hu, asAddr, Sem.run_bind, Sem.run_pure, Result.andThen_ok, loadVar, hag, if_true, hsz, hc]
structure ResOk (P : Program) (fn : Func) (st : St) (A : AV) : Prop where
  run : ∀ X a σ κ, RK X (fun s => s / 8 < st.cnt) st.env st.heap a σ κ → ∃ v, (results fn a.tmps).run P κ.w = .ok v κ.w ∧ A.p σ κ v
section
variable {P : Program} {fn : Func} {st : St} {A B C D : AV} {r s t u : ResultVar}
theorem results_eq (tmps : Array Value) : results fn tmps = (do let vs ← fn.results.mapM (resOne tmps); pure (if h : vs.size = 1 then vs[0] else .tuple vs)) := rfl
theorem ResOk.none (h : fn.results = #[]) (hA : ∀ σ κ, A.p σ κ (.tuple #[])) : ResOk P fn st A := ⟨fun X a σ κ hR => by
  refine ⟨.tuple #[], ?_, hA _ _⟩
  rw [results_eq, h]
  simp⟩
theorem ResOk.one (h : fn.results = #[r]) (hr : RVal P st r A) : ResOk P fn st A := ⟨fun X a σ κ hR => by
  obtain ⟨v, h1, h2⟩ := hr X a σ κ hR
  refine ⟨v, ?_, h2⟩
  rw [results_eq, h]
  simp [h1]⟩
theorem ResOk.two (h : fn.results = #[r, s]) (hr : RVal P st r A) (hs : RVal P st s B) : ResOk P fn st (Tup [A, B]) := ⟨fun X a σ κ hR => by
  obtain ⟨v, h1, h2⟩ := hr X a σ κ hR
  obtain ⟨v', h1', h2'⟩ := hs X a σ κ hR
  refine ⟨.tuple #[v, v'], ?_, [v, v'], rfl, h2, h2', trivial⟩
  rw [results_eq, h]
  simp [h1, h1', Result.andThen]⟩
theorem ResOk.three (h : fn.results = #[r, s, t]) (hr : RVal P st r A) (hs : RVal P st s B) (ht : RVal P st t C) : ResOk P fn st (Tup [A, B, C]) := ⟨fun X a σ κ hR => by
  obtain ⟨v, h1, h2⟩ := hr X a σ κ hR
  obtain ⟨v', h1', h2'⟩ := hs X a σ κ hR
  obtain ⟨v'', h1'', h2''⟩ := ht X a σ κ hR
  refine ⟨.tuple #[v, v', v''], ?_, [v, v', v''], rfl, h2, h2', h2'', trivial⟩
  rw [results_eq, h]
  simp [h1, h1', h1'', Result.andThen]⟩
end
def argE : Nat → List AV → Env
  | _, [] => fun _ => Any
  | k, A :: l => upd (argE (k + 1) l) k A
theorem argE_at : ∀ (l : List AV) (k t : Nat), argE k l t = Any ∨ ∃ i A, t = k + i ∧ l[i]? = some A ∧ argE k l t = A
  | [], _, _ => .inl rfl
  | A :: l, k, t => by
    by_cases e : t = k
    · subst e; exact .inr ⟨0, A, by omega, rfl, by simp only [argE, upd_same]⟩
    · simp only [argE, upd_other _ _ _ _ e]
      rcases argE_at l (k + 1) t with h | ⟨i, B, h1, h2, h3⟩
      · exact .inl h
      · exact .inr ⟨i + 1, B, by omega, by simpa using h2, h3⟩
def FinQ (P : Program) (fn : Func) (A : AV) : Exit → St → Prop
  | .normal, st | .ret, st => ResOk P fn st A
  | _, _ => False
/-- marks taken: what a function does as it leaves -/
def shut : World → List Nat → World
  | w, [] => w
  | w, r :: ms => shut (w.putObj r (.deferred none)) ms
theorem shut_size : ∀ (ms : List Nat) (w : World), (shut w ms).heap.size = w.heap.size
  | [], _ => rfl
  | r :: ms, w => by rw [shut, shut_size ms]; simp
theorem shut_at : ∀ (ms : List Nat) (w : World) (b : Nat), b ∉ ms → (shut w ms).heap[b]? = w.heap[b]?
  | [], _, _, _ => rfl
  | r :: ms, w, b, h => by
    simp only [List.mem_cons, not_or] at h
    rw [shut, shut_at ms _ b h.2]
    exact World.putObj_heap_other h.1
theorem shut_os : ∀ (ms : List Nat) (w : World), (shut w ms).os = w.os ∧ (shut w ms).tape = w.tape ∧ (shut w ms).output = w.output
  | [], _ => ⟨rfl, rfl, rfl⟩
  | r :: ms, w => by
    rw [shut]
    exact shut_os ms _
theorem leaves_ms {P : Program} {fn : Func} {tmps : Array Value} {R : Ending → World → Prop} {n : Nat} : ∀ (ms : List Nat) (w : World), ms.Nodup → (∀ r, r ∈ ms → w.heap[r]? = some (.deferred (some []))) →
    (∃ v, (results fn tmps).run P (shut w ms) = .ok v (shut w ms) ∧ R (.returned v) (shut w ms)) → LeavesInM Fence.wide n P fn tmps R (ms.map mark) .returning w
  | [], _, _, _, h => h
  | r :: ms, w, hn, hr, h => by
    obtain ⟨h1, h2⟩ := List.nodup_cons.1 hn
    refine ⟨by simp, .inl ⟨r, w.putObj r (.deferred none), rfl, run_takeDeferred (hr r (by simp)), ?_⟩⟩
    refine leaves_ms ms _ h2 (fun r' hr' => ?_) h
    rw [World.putObj_heap_other (fun e => h1 (by rw [← e]; exact hr'))]
    exact hr r' (by simp [hr'])
theorem RK.leave {X : Fix} {used : Nat → Prop} {env : Env} {heap : Heap} {a : Act} {σ : Names} {κ : Kw} (h : RK X used env heap a σ κ) : ∃ ms κ', a.defers = ms.map mark ++ X.dfs ∧ ms.Nodup ∧ (∀ r, r ∈ ms → κ.w.heap[r]? = some (.deferred (some []))) ∧ κ'.w = shut κ.w ms ∧ RK X used env heap { a with defers := X.dfs } σ κ' := by
  obtain ⟨D, ms, hp⟩ := h.prot
  have hlt : ∀ b k, κ.own b = some k → b < (shut κ.w ms).heap.size := fun b k hb => by rw [shut_size]; exact κ.lt b k hb
  have hne : ∀ b, κ.own b = none → b ∉ ms := fun b hb hm => by rw [(hp.marks b hm).2.2.2.1] at hb; cases hb
  obtain ⟨o1, o2, o3⟩ := shut_os ms κ.w
  have hle : κ.le ⟨shut κ.w ms, κ.own, hlt⟩ := ⟨o1, o2, o3, Nat.le_of_eq (shut_size _ _).symm, fun b _ hb => ⟨hb, shut_at _ _ _ (hne b hb)⟩, fun b k hb => ⟨fun k' hk' => by have : κ.own b = some k' := hk'; rw [hb] at this; cases this; exact Nat.le_refl _, fun j u hj hu => by
    have hm : b ∉ ms := fun hm => by
      rw [(hp.marks b hm).2.2.2.1] at hb; cases hb; exact absurd hj (Nat.not_lt_zero _)
    simp only [World.cell?] at hu ⊢
    rw [shut_at _ _ _ hm]; exact hu⟩⟩
  refine ⟨ms, ⟨shut κ.w ms, κ.own, hlt⟩, hp.ds, hp.nodup, fun r hr => (hp.marks r hr).2.2.2.2, rfl, { tmps := h.tmps, base := fun b hb => Nat.lt_of_lt_of_le (h.base b hb) hle.size, pin := h.pin, env_ := fun t => (env t).mono hle (h.env_ t), hr := ⟨fun i c hc => Chunk.keep hle (fun g hg => ⟨shut_at _ _ _ (hp.far i c g hc hg).2, rfl⟩) (h.hr.at_ i c hc), h.hr.far, h.hr.base⟩, le0 := Kw.le_trans h.le0 hle, old := fun b hb => ⟨(h.old b hb).1, (shut_at _ _ _ (fun hm => (hp.marks b hm).2.1 hb)).trans (h.old b hb).2⟩, sup := h.sup, hsup := h.hsup, prot := ⟨D, [], ?_⟩ }⟩
  have hst : Still D κ ⟨shut κ.w ms, κ.own, hlt⟩ := fun b hb => ⟨rfl, shut_at _ _ _ (fun hm => (hp.marks b hm).1 hb)⟩
  exact ⟨fun b hb => ⟨Nat.lt_of_lt_of_le (hp.bd b hb).1 hle.size, (hp.bd b hb).2⟩, hp.nb, fun i c g hc hg => ⟨(hp.far i c g hc hg).1, by simp⟩, X.stK _ _ _ hp.k hle hst, fun I k e => X.stJ _ _ _ _ _ (hp.j I k e) hle hst, rfl, List.nodup_nil, fun r hr => by cases hr⟩
/-- a contract, by the function's code -/
theorem FPure.of {P : Program} {f : FuncId} {fn : Func} {c : Code} {args : List AV} {A : AV} {N : Nat} (hf : P.funcs[f]? = some fn) (hN : fn.ntmps = N) (hb : fn.body = some c) (hname : (fn.name == "runtime.NumGoroutine") = false) (hn : Nat.ble args.length N = true) (hA : A.sup = []) (hargs : args.flatMap AV.sup = [])
    (h0 : W P N c ⟨argE 0 args, fun _ => none, 1⟩ (FinQ P fn A)) : FPure P f args A where
  sup := hA
  ent := fun vs0 w => run_callFunc hf hname (by rw [hb]; rfl) vs0 w
  calls := fun σ κ vs hvs => by
    have hlen := hvs.length
    subst hN
    have h := h0
    have hn' : args.length ≤ fn.ntmps := Nat.le_of_ble_eq_true hn
    refine callsIn_wide.1 (callsIn_of_wp_marks (F := Fence.wide) (n := 0) hf hb trivial ?_)
    have h0 : RS (Fix.plain fn.ntmps (fun b => b < κ.w.heap.size) σ κ) ⟨argE 0 args, fun _ => none, 1⟩ { tmps := vs.toArray ++ Array.replicate (fn.ntmps - vs.toArray.size) undef, defers := [] } κ.w := by
      refine ⟨Nat.le_refl _, σ, κ, rfl, { tmps := by simp [Fix.plain]; omega, prot := ⟨_, [], Prot.plain rfl⟩, base := fun b hb => hb, pin := fun _ _ => rfl, env_ := fun t => ?_, hr := ⟨(fun i c hc => by cases hc), (fun i j g _ hi _ _ => absurd rfl hi), (fun i c g hc _ => by cases hc)⟩, le0 := Kw.le_refl κ, old := fun b _ => ⟨rfl, rfl⟩, sup := fun t s hs => ?_, hsup := fun i c hc => by cases hc }⟩
      · rcases argE_at args 0 t with h1 | ⟨i, B, h1, h2, h3⟩
        · show (argE 0 args t).p _ _ _
          rw [h1]; trivial
        · show (argE 0 args t).p _ _ _
          rw [h3]
          obtain ⟨v, hv, hB⟩ := all2_get hvs h2
          have : (vs.toArray ++ Array.replicate (fn.ntmps - vs.toArray.size) undef).getD t undef = v := by
            have hi : i < vs.length := (List.getElem?_eq_some_iff.1 hv).1
            have ht : t = i := by omega
            subst ht
            rw [Array.getD_eq_getD_getElem?, Array.getElem?_append_left (by simpa using hi)]
            simp [hv]
          rw [this]; exact hB
      · rcases argE_at args 0 t with h1 | ⟨i, B, h1, h2, h3⟩
        · have hs' : s ∈ (argE 0 args t).sup := hs
          rw [h1] at hs'; cases hs'
        · have hs' : s ∈ (argE 0 args t).sup := hs
          rw [h3] at hs'
          have := sup_mem (List.mem_of_getElem? h2) hs'
          rw [hargs] at this; cases this
    refine wpIn_mono (h _ 0 _ _ Fix.plain_ok rfl h0) fun e a' w' ⟨st', hq, _, σ', κ', hw, hR⟩ => ?_
    have fin : ResOk P fn st' A → LeavesInM Fence.wide 0 P fn a'.tmps (fun e w' => ∃ v κ', e = .returned v ∧ κ'.w = w' ∧ κ.le κ' ∧ (∀ b, b < κ.w.heap.size → κ'.own b = κ.own b ∧ κ'.w.heap[b]? = κ.w.heap[b]?) ∧ A.p σ κ' v) a'.defers .returning w' := fun hok => by
      obtain ⟨ms, κ'', h1, h2, h3, h4, h5⟩ := hR.leave
      have h1 : a'.defers = ms.map mark := h1.trans (List.append_nil _)
      obtain ⟨v, hv, hAv⟩ := hok.run _ _ σ' κ'' h5
      rw [h1]
      refine leaves_ms ms w' h2 (fun r hr => by rw [← hw]; exact h3 r hr) ⟨v, ?_, v, κ'', rfl, by rw [h4, hw], h5.le0, h5.old, A.loc (fun i hi => by rw [hA] at hi; cases hi) hAv⟩
      rw [← hw, ← h4]; exact hv
    cases e with
    | normal => exact fin hq
    | ret => exact fin hq
    | exit _ => exact hq.elim
    | goto _ => exact hq.elim
    | panic _ => exact hq.elim
    | outgrown => exact hq.elim
theorem Runs_nil {P : Program} {N c : Nat} {ops : Array Oper} {k : Nat} {env : Env} {heap : Heap} {K : List Res → Env → Heap → Prop} (h : K [] env heap) : Runs P N c ops k [] env heap K := h
theorem Runs_op {P : Program} {N c : Nat} {ops : Array Oper} {k : Nat} {env : Env} {heap : Heap} {K : List Res → Env → Heap → Prop} {o : Oper} {os : List Oper} {r : Res} (hg : o.guard = none) (hv : Valid P (c + k) o (ρof env) heap r) (hd : (o.dst.all (fun d => decide (d < N))) = true)
    (h : Runs P N c ops (k + 1) os (putE env o.dst r.val) (updl heap r.wr) (fun rs => K (r :: rs))) (hz : calmB o r = true := by rfl) : Runs P N c ops k (o :: os) env heap K := ⟨r, by unfold GValid; rw [hg]; exact hv.up hz, hd, h⟩
def over (env : Env) : List (Nat × AV) → Env
  | [] => env
  | (k, A) :: l => upd (over env l) k A
def OverOk (env : Env) : List (Nat × AV) → Prop
  | [] => True
  | (k, A) :: l => ((∀ σ κ v, (env k).p σ κ v → A.p σ κ v) ∧ ∀ s ∈ A.sup, s ∈ (env k).sup) ∧ OverOk env l
theorem OverOk.at_ {env : Env} : ∀ {l : List (Nat × AV)}, OverOk env l → ∀ t, (∀ σ κ v, (env t).p σ κ v → (over env l t).p σ κ v) ∧ ∀ s ∈ (over env l t).sup, s ∈ (env t).sup
  | [], _, t => ⟨fun _ _ _ h => h, fun _ h => h⟩
  | (k, A) :: l, ⟨h1, h2⟩, t => by
    by_cases e : t = k
    · subst e; simp only [over, upd_same]; exact h1
    · simp only [over, upd_other _ _ _ _ e]; exact OverOk.at_ h2 t
theorem cnd_at {B A : AV} {c : Prop} (h : B = Cnd c A) (hc : c) : (∀ σ κ v, B.p σ κ v → A.p σ κ v) ∧ ∀ s ∈ A.sup, s ∈ B.sup := by
  subst h; exact ⟨fun _ _ _ h => h.1 hc, fun _ h => h⟩
/-- an operation under a guard: not known whether it is carried out -/
theorem Runs_cnd {P : Program} {N c : Nat} {ops : Array Oper} {k : Nat} {env : Env} {heap : Heap} {K : List Res → Env → Heap → Prop} {o : Oper} {os : List Oper} {A : AV} {rd : List Nat} {j d : Nat} {want : Bool} {g : Prop} (hg : o.guard = some (j, want)) (hj : (ops[j]?).bind (·.dst) = some d) (hβ : Grd (env d) want g)
    (l : List (Nat × AV)) (hl : g → OverOk env l) (hv : g → Valid P (c + k) o (ρof (over env l)) heap ⟨A, rd, []⟩) (hA : A.sup = []) (hd : (o.dst.all (fun d => decide (d < N))) = true)
    (h : Runs P N c ops (k + 1) os (putE env o.dst (Cnd g A)) heap (fun rs => K (⟨Cnd g A, rd, []⟩ :: rs))) (hz : calmB o ⟨A, rd, []⟩ = true := by rfl) : Runs P N c ops k (o :: os) env heap K :=
  ⟨⟨Cnd g A, rd, []⟩, by unfold GValid; rw [hg]; exact ⟨d, g, hj, hβ, .inr (.inr ⟨A, rd, over env l, fun hb => ⟨(hv hb).up hz, fun t _ => (hl hb).at_ t⟩, fun s hs => (by rw [hA] at hs; cases hs), rfl⟩)⟩, hd, h⟩
/-- so for what stands on memory of the call's own -/
theorem Runs_cnds {P : Program} {N c : Nat} {ops : Array Oper} {k : Nat} {env : Env} {heap : Heap} {K : List Res → Env → Heap → Prop} {o : Oper} {os : List Oper} {A : AV} {rd : List Nat} {j d t : Nat} {want : Bool} {g : Prop} (hg : o.guard = some (j, want)) (hj : (ops[j]?).bind (·.dst) = some d) (hβ : Grd (env d) want g)
    (l : List (Nat × AV)) (hl : g → OverOk env l) (hv : g → Valid P (c + k) o (ρof (over env l)) heap ⟨A, rd, []⟩) (ht : Operand.tmp t ∈ o.op.operands) (hA : (env t).sup = A.sup) (hd : (o.dst.all (fun d => decide (d < N))) = true)
    (h : Runs P N c ops (k + 1) os (putE env o.dst (Cnd g A)) heap (fun rs => K (⟨Cnd g A, rd, []⟩ :: rs))) (hz : calmB o ⟨A, rd, []⟩ = true := by rfl) : Runs P N c ops k (o :: os) env heap K :=
  ⟨⟨Cnd g A, rd, []⟩, by unfold GValid; rw [hg]; exact ⟨d, g, hj, hβ, .inr (.inr ⟨A, rd, over env l, fun hb => ⟨(hv hb).up hz, fun t _ => (hl hb).at_ t⟩, fun s hs => ⟨t, ht, by rw [hA]; exact hs⟩, rfl⟩)⟩, hd, h⟩
/-- an operation under a guard that lets it through -/
theorem Runs_yes {P : Program} {N c : Nat} {ops : Array Oper} {k : Nat} {env : Env} {heap : Heap} {K : List Res → Env → Heap → Prop} {o : Oper} {os : List Oper} {r : Res} {j d : Nat} {want : Bool} {g : Prop} (hg : o.guard = some (j, want)) (hj : (ops[j]?).bind (·.dst) = some d) (hβ : Grd (env d) want g) (hgg : g)
    (hv : Valid P (c + k) o (ρof env) heap r) (hd : (o.dst.all (fun d => decide (d < N))) = true)
    (h : Runs P N c ops (k + 1) os (putE env o.dst r.val) (updl heap r.wr) (fun rs => K (r :: rs))) (hz : calmB o r = true := by rfl) : Runs P N c ops k (o :: os) env heap K :=
  ⟨r, by unfold GValid; rw [hg]; exact ⟨d, g, hj, hβ, .inl ⟨hgg, hv.up hz⟩⟩, hd, h⟩
/-- and one that doesn't -/
theorem Runs_no {P : Program} {N c : Nat} {ops : Array Oper} {k : Nat} {env : Env} {heap : Heap} {K : List Res → Env → Heap → Prop} {o : Oper} {os : List Oper} {j d : Nat} {want : Bool} {g : Prop} (hg : o.guard = some (j, want)) (hj : (ops[j]?).bind (·.dst) = some d) (hβ : Grd (env d) want g) (hgg : ¬ g) (hd : (o.dst.all (fun d => decide (d < N))) = true)
    (h : Runs P N c ops (k + 1) os (putE env o.dst (Is undef)) heap (fun rs => K (⟨Is undef, [], []⟩ :: rs))) : Runs P N c ops k (o :: os) env heap K :=
  ⟨⟨Is undef, [], []⟩, by unfold GValid; rw [hg]; exact ⟨d, g, hj, hβ, .inr (.inl ⟨hgg, rfl⟩)⟩, hd, h⟩
end Ab
end Go.Proofs.Ytdcenocljnlipaa

namespace Go.Proofs.Ytdcenocljnlipaa
open Go.RowKit
namespace Ab
section
variable {P : Program} {nid : Nat} {o : Oper} {ρ : Operand → AV} {h : Heap}
theorem RVal.is {st : St} {t : Tmp} {A : AV} {v v' : Value} (h : st.env t = Is v) (hA : A = Is v') (e : v = v') : RVal P st (.tmp t) A := .tmp fun σ κ u hu => by
  rw [h] at hu; subst hA e; exact hu
theorem RVal.sl {st : St} {t : Tmp} {A : AV} {e n n' : Nat} {xs xs' : List Value} (h : Reads (st.env t) e n xs) (hA : A = Sl e n' xs') (e1 : n = n') (e2 : xs = xs') : RVal P st (.tmp t) A := .tmp fun σ κ u hu => by
  subst hA e1 e2; exact h σ κ u hu
theorem leq_is {θ : Nat → Nat} {A B : AV} {v v' : Value} (h : A = Is v) (h' : B = Is v') (e : v = v') : A.leq θ B := fun σ κ u hu => by subst h h' e; exact hu
theorem leq_any {θ : Nat → Nat} {A : AV} : A.leq θ Any := fun _ _ _ _ => trivial
theorem leq_sl {θ : Nat → Nat} {A B : AV} {e n n' : Nat} {xs xs' : List Value} (h : Reads A e n xs) (h' : B = Sl e n' xs') (e1 : n = n') (e2 : xs = xs') : A.leq θ B := fun σ κ u hu => by subst h' e1 e2; exact h σ κ u hu
theorem leq_own {θ : Nat → Nat} {A B : AV} {id id' e n n' : Nat} {xs xs' : List Value} (h : A = Own id e n xs) (h' : B = Own id' e n' xs') (hθ : Nat.beq (θ id') id = true) (e1 : n = n') (e2 : xs = xs') : A.leq θ B := fun σ κ u hu => by
  subst h h' e1 e2
  have := Nat.eq_of_beq_eq_true hθ
  subst this; exact hu
theorem leq_ptr {θ : Nat → Nat} {A B : AV} {id id' off : Nat} (h : A = Ptr id off) (h' : B = Ptr id' off) (hθ : Nat.beq (θ id') id = true) : A.leq θ B := fun σ κ u hu => by
  subst h h'
  have := Nat.eq_of_beq_eq_true hθ
  subst this; exact hu
theorem leq_elt {θ : Nat → Nat} {A B : AV} {xs xs' : List Value} (h : A = Elt xs) (h' : B = Elt xs') (e : xs = xs') : A.leq θ B := fun σ κ u hu => by subst h h' e; exact hu
theorem leq_agg {θ : Nat → Nat} {A B : AV} {l m : List AV} (h : A = Agg l) (h' : B = Agg m) (e : All2le θ l m) : A.leq θ B := fun σ κ u hu => by
  subst h h'
  obtain ⟨us, h1, h2⟩ := hu
  exact ⟨us, h1, e.all2 h2⟩
theorem argle {A B : AV} (h : A = B) : ∀ σ κ v, A.p σ κ v → B.p σ κ v := fun _ _ _ hv => h ▸ hv
theorem argle_sl {A : AV} {e n : Nat} {xs : List Value} (h : Reads A e n xs) : ∀ σ κ v, A.p σ κ v → (Sl e n xs).p σ κ v := h
/-- nil, as a row of the call's own -/
theorem Ent.ownnil {st : St} (k : Nat) (t : TypeId) (e : Nat) (hk : st.env k = Is (.slice none 0 0)) : Ent st ⟨upd st.env k (Own (8 * st.cnt) e 0 []), upd st.heap (8 * st.cnt) (some (.row t e 0 [])), st.cnt + 1⟩ := by
  intro X a w ⟨hc1, σ, κ, hw, h⟩
  have hfr : ∀ s, s / 8 < st.cnt → upd σ (8 * st.cnt) (.slice none 0 0) s = σ s := fun s hs => upd_other _ _ _ _ (fun e => by omega)
  have hold : ∀ i c, st.heap i = some c → i ≠ 8 * st.cnt := fun i c hc e => by
    have : i / 8 < st.cnt := (h.hsup i c hc).1
    omega
  refine ⟨Nat.le_succ_of_le hc1, upd σ (8 * st.cnt) (.slice none 0 0), κ, hw, { tmps := h.tmps, prot := (by obtain ⟨D, ms, hp⟩ := h.prot; exact ⟨D, ms, hp.new rfl (by omega)⟩), base := h.base, pin := fun i hi => by rw [upd_other _ _ _ _ (fun e => by omega)]; exact h.pin i hi, env_ := fun t' => ?_, le0 := h.le0, old := h.old, hr := ?_, sup := fun t' s hs => ?_, hsup := fun i c hc => ?_ }⟩
  · by_cases e : t' = k
    · subst e
      simp only [upd_same]
      have := h.env_ t'
      rw [hk] at this
      have this : a.tmps.getD t' undef = .slice none 0 0 := this
      exact ⟨by rw [this, upd_same], by rw [this]; exact ⟨by simp, .inl ⟨rfl, rfl⟩⟩⟩
    · simp only [upd_other _ _ _ _ e]
      exact (st.env t').loc (fun i hi => hfr i (h.sup t' i hi)) (h.env_ t')
  · exact h.hr.set (Kw.le_refl κ) (8 * st.cnt) (.slice none 0 0) (.row t e 0 []) (fun _ => false) (fun _ _ _ _ _ _ _ => ⟨rfl, rfl⟩) ⟨World.ownsRow_nil κ.w 0 t e, fun g hg => by cases hg⟩
      (fun i g _ _ _ _ he => by cases he) (fun g hg => by cases hg) (fun i d hd _ _ j hj => hfr j ((h.hsup i d hd).2 j hj)) _ (upd_same _ _ _) (fun i hi _ => upd_other _ _ _ _ hi) (fun i _ hf => by cases hf)
  · show s / 8 < st.cnt + 1
    by_cases e : t' = k
    · subst e
      simp only [upd_same] at hs
      have : s ∈ [8 * st.cnt] := hs
      simp at this; omega
    · simp only [upd_other _ _ _ _ e] at hs
      have : s / 8 < st.cnt := h.sup t' s hs
      omega
  · show i / 8 < st.cnt + 1 ∧ ∀ s ∈ c.sup, s / 8 < st.cnt + 1
    by_cases e : i = 8 * st.cnt
    · subst e
      simp only [upd_same] at hc
      cases hc
      exact ⟨by omega, fun s hs => by cases hs⟩
    · simp only [upd_other _ _ _ _ e] at hc
      obtain ⟨h1, h2⟩ := h.hsup i c hc
      have h1 : i / 8 < st.cnt := h1
      exact ⟨by omega, fun s hs => by have : s / 8 < st.cnt := h2 s hs; omega⟩
/-- an element type's row of the table -/
def TI (P : Program) (el : TypeId) (e bytes : Nat) : Prop := ∃ i z, P.info? el = some i ∧ i.zero = some z ∧ i.size = e ∧ i.bytes = bytes ∧ z.cells.size = e
theorem TI.mk' {el : TypeId} {z : Value} {e bytes : Nat} (h : (P.info? el).map (fun i => (i.zero, i.size, i.bytes)) = some (some z, e, bytes)) (hz : z.cells.size = e) : TI P el e bytes := by
  cases hi : P.info? el with
  | none => rw [hi] at h; cases h
  | some i =>
    rw [hi] at h
    simp only [Option.map_some, Option.some.injEq, Prod.mk.injEq] at h
    exact ⟨i, z, hi, h.1, h.2.1, h.2.2, hz⟩
theorem Valid.app {x y : Operand} {t el : TypeId} {id e n m bytes : Nat} {xs ys : List Value} (ho : o.op = .call { callee := .builtin .append, args := #[x, y], argTypes := #[t, t] })
    (ht : P.underlying t = some (.slice el)) (hi : TI P el e bytes) (hsz : 0 < e) (hx : ρ x = Own id e n xs) (hh : h id = some (.row el e n xs)) (hy : Reads (ρ y) e m ys) (h1 : ∀ u ∈ ys, u.oneCell' = true) (hm : n + m ≤ maxLen) (hb : (n + m) * bytes ≤ 140737488355328) :
    Valid P nid o ρ h ⟨Own (8 * nid) e (n + m) (xs ++ ys), [id], [(id, none), (8 * nid, some (.row el e (n + m) (xs ++ ys)))]⟩ := by
  obtain ⟨i, z, h2, h3, h4, h5, h6⟩ := hi
  exact .append ho ht h2 h3 h4 h5 h6 hsz hx hh hy h1 hm hb
theorem Valid.appnil {x y : Operand} {t el : TypeId} {e m bytes : Nat} {ys : List Value} (ho : o.op = .call { callee := .builtin .append, args := #[x, y], argTypes := #[t, t] })
    (ht : P.underlying t = some (.slice el)) (hi : TI P el e bytes) (hsz : 0 < e) (hx : ρ x = Is (.slice none 0 0)) (hy : Reads (ρ y) e m ys) (h1 : ∀ u ∈ ys, u.oneCell' = true) (hm : m ≤ maxLen) (hb : m * bytes ≤ 140737488355328) :
    Valid P nid o ρ h ⟨Own (8 * nid) e m ys, [], [(8 * nid, some (.row el e m ys))]⟩ := by
  obtain ⟨i, z, h2, h3, h4, h5, h6⟩ := hi
  exact .appendnil ho ht h2 h3 h4 h5 h6 hsz hx hy h1 hm hb
theorem one_map {G : Type} {f : G → Value} {l : List G} (hf : ∀ x, (f x).oneCell' = true) : ∀ u ∈ l.map f, u.oneCell' = true := fun u hu => by
  obtain ⟨x, _, rfl⟩ := List.mem_map.1 hu
  exact hf x
theorem one_cons {v : Value} {l : List Value} (h : v.oneCell' = true) (hl : ∀ u ∈ l, u.oneCell' = true) : ∀ u ∈ v :: l, u.oneCell' = true := fun u hu => by
  rcases List.mem_cons.1 hu with rfl | hu
  · exact h
  · exact hl u hu
theorem one_nil : ∀ u ∈ ([] : List Value), u.oneCell' = true := fun u hu => by cases hu
def pairs : Nat → List Value → List (Nat × Value)
  | _, [] => []
  | k, v :: l => (k, v) :: pairs (k + 1) l
theorem Valid.lit {t el : TypeId} {n : Nat} {parts : Array (Nat × Operand)} (vs : List Value) (ho : o.op = .buildSlice t n parts)
    (hp : parts.toList.map (fun x => (x.1, ρ x.2)) = (pairs 0 vs).map (fun x => (x.1, Is x.2)))
    (hrun : ∀ w : World, (Instr.buildSlice t n (pairs 0 vs).toArray).run P w = .ok (.slice (some ⟨w.heap.size, 0, none⟩) n n) (w.alloc (.cells vs.toArray el))) (hl : vs.length = n) (hn : n ≤ maxLen) :
    Valid P nid o ρ h ⟨Sl 1 n vs, [], []⟩ := .buildslice (pairs 0 vs) vs ho hp hrun (by omega) hn
theorem Valid.struct {t : TypeId} {parts : Array (Nat × Operand)} (vs : List Value) (ho : o.op = .build t parts)
    (hp : parts.toList.map (fun x => (x.1, ρ x.2)) = (pairs 0 vs).map (fun x => (x.1, Is x.2)))
    (hrun : ∀ w : World, (Instr.build t (pairs 0 vs).toArray).run P w = .ok (.agg vs.toArray) w) : Valid P nid o ρ h ⟨Agg (vs.map Is), [], []⟩ := .build (pairs 0 vs) vs ho hp hrun
theorem Valid.shl {t t' : TypeId} {x y : Operand} {k k' : IntKind} {a b : Int} (ho : o.op = .binOp .shl t x y t') (hx : ρ x = Is (.int k a)) (hy : ρ y = Is (.int k' b)) (h1 : 0 ≤ b) (h2 : b.toNat ≤ k.bits) (hr : Room k (a * 2 ^ b.toNat)) : Valid P nid o ρ h ⟨Is (.int k (a * 2 ^ b.toNat)), [], []⟩ := by
  have := Valid.shlw (P := P) (nid := nid) (h := h) ho hx hy h1
  rw [Nat.min_eq_left h2] at this
  rwa [hr] at this
section cuts
variable {G : Type} {x y z : Operand} {t el : TypeId} {n : Nat} {f : G → Value} {l : List G} {k k' : IntKind} {i j : Int}
theorem Valid.slice1 (ho : o.op = .slice t x (some y) (some z) none) (ht : P.underlying t = some (.slice el)) (hsz : ∀ w, (sizeOf el).run P w = .ok 1 w) (hx : Reads (ρ x) 1 n (l.map f)) (hy : ρ y = Is (.int k i)) (hz : ρ z = Is (.int k' j))
    (hi : 0 ≤ i ∧ i ≤ j ∧ j ≤ n) : Valid P nid o ρ h ⟨Sl 1 (j.toNat - i.toNat) (((l.drop i.toNat).take (j.toNat - i.toNat)).map f), [], []⟩ := by
  have := Valid.slice (P := P) (nid := nid) (h := h) ho ht hsz hx hy hz hi
  simpa [List.map_take, List.map_drop] using this
theorem Valid.sliceto1 (ho : o.op = .slice t x none (some z) none) (ht : P.underlying t = some (.slice el)) (hsz : ∀ w, (sizeOf el).run P w = .ok 1 w) (hx : Reads (ρ x) 1 n (l.map f)) (hz : ρ z = Is (.int k' j))
    (hi : 0 ≤ j ∧ j ≤ n) : Valid P nid o ρ h ⟨Sl 1 j.toNat ((l.take j.toNat).map f), [], []⟩ := by
  have := Valid.sliceto (P := P) (nid := nid) (h := h) ho ht hsz hx hz hi
  simpa [List.map_take] using this
theorem Valid.slicefrom1 (ho : o.op = .slice t x (some y) none none) (ht : P.underlying t = some (.slice el)) (hsz : ∀ w, (sizeOf el).run P w = .ok 1 w) (hx : Reads (ρ x) 1 n (l.map f)) (hy : ρ y = Is (.int k i))
    (hi : 0 ≤ i ∧ i ≤ n) : Valid P nid o ρ h ⟨Sl 1 (n - i.toNat) ((l.drop i.toNat).map f), [], []⟩ := by
  have := Valid.slicefrom (P := P) (nid := nid) (h := h) ho ht hsz hx hy hi
  simpa [List.map_drop] using this
end cuts
end
/-! ### to and from contracts of the older form -/
theorem FPure.of_below {P : Program} {f : FuncId} {vs : List Value} {v : Value} (hent : ∀ (args : Array Value) (w : World), (callFunc f args).run P w = .ok (.enter f args) w) (h : ∀ w, Calls P f vs.toArray w fun e w' => e = .returned v ∧ Below w.heap.size w w') : FPure P f (vs.map Is) (Is v) where
  sup := rfl
  ent := hent
  calls := fun σ κ us hus => by
    have key : ∀ (l m : List Value), All2 σ κ (l.map Is) m → m = l := by
      intro l
      induction l with
      | nil => intro m hm; cases m with
        | nil => rfl
        | cons _ _ => exact hm.elim
      | cons a l ih => intro m hm; cases m with
        | nil => exact hm.elim
        | cons b m =>
          have h1 : b = a := hm.1
          rw [h1, ih m hm.2]
    rw [key vs us hus]
    refine (h κ.w).mono ?_
    rintro e w' ⟨rfl, hb⟩
    refine ⟨v, ⟨w', κ.own, fun b k hk => Nat.lt_of_lt_of_le (κ.lt b k hk) hb.size⟩, rfl, rfl, ⟨hb.os, hb.tape, hb.output, hb.size, fun b hlt ho => ⟨ho, hb.block b hlt⟩, fun b k ho => ⟨fun k' hk' => ?_, fun j u _ hu => ?_⟩⟩, fun b hlt => ⟨rfl, hb.block b hlt⟩, rfl⟩
    · have : κ.own b = some k' := hk'
      rw [ho] at this; cases this; exact Nat.le_refl _
    · have := hb.block b (κ.lt b k ho)
      simp only [World.cell?] at hu ⊢
      rw [this]; exact hu
def Kw.plain (w : World) : Kw := ⟨w, fun _ => none, fun _ _ h => by cases h⟩
theorem SlP.of_kit {w : World} {e n : Nat} {xs : List Value} {v : Value} (h : Kit.Sl w e v n xs) : SlP (Kw.plain w) e n xs v := by
  obtain ⟨hl, h | ⟨a, c, rfl, h1, h2, hc⟩⟩ := h
  · exact ⟨hl, .inl h⟩
  · exact ⟨hl, .inr ⟨a, c, rfl, h1, h2, fun j u hj => ⟨(hc j u hj).1, (hc j u hj).2, fun k hk => by cases hk⟩⟩⟩
theorem FPure.below {P : Program} {f : FuncId} {args : List AV} {v : Value} (h : FPure P f args (Is v)) {w : World} {vs : List Value} (ha : All2 (fun _ => undef) (Kw.plain w) args vs) : Calls P f vs.toArray w fun e w' => e = .returned v ∧ Below w.heap.size w w' :=
  (h.calls _ _ _ ha).mono fun e w' ⟨u, κ', he, hw, hle, hold, hA⟩ => by
    have hA : u = v := hA
    subst hA hw
    exact ⟨he, hle.os, hle.tape, hle.output, hle.size, fun b hb => (hold b hb).2⟩
end Ab
end Go.Proofs.Ytdcenocljnlipaa

namespace Go.Proofs.Ytdcenocljnlipaa
open Go.RowKit
namespace Ab
/-- names, some of them turned -/
def thf : List (Nat × Nat) → Nat → Nat
  | [], i => i
  | (a, b) :: l, i => bif Nat.beq i a then b else thf l i
theorem envOf_append : ∀ (l m : List (Nat × AV)) (θ : Nat → Nat) (env : Env), EnvLe θ env l → EnvLe θ env m → EnvLe θ env (l ++ m)
  | [], _, _, _, _, h => h
  | (_, _) :: l, m, θ, env, ⟨h1, h2⟩, h => ⟨h1, envOf_append l m θ env h2 h⟩
theorem hpLe_append : ∀ (l m : List (Nat × Chunk)) (θ : Nat → Nat) (hp : Heap), HpLe θ hp l → HpLe θ hp m → HpLe θ hp (l ++ m)
  | [], _, _, _, _, h => h
  | (_, _) :: l, m, θ, env, ⟨h1, h2⟩, h => ⟨h1, hpLe_append l m θ env h2 h⟩
theorem supE_append {cnt : Nat} : ∀ (l m : List (Nat × AV)), SupE cnt l → SupE cnt m → SupE cnt (l ++ m)
  | [], _, _, h => h
  | (_, _) :: l, m, ⟨h1, h2⟩, h => ⟨h1, supE_append l m h2 h⟩
theorem supH_append {cnt : Nat} : ∀ (l m : List (Nat × Chunk)), SupH cnt l → SupH cnt m → SupH cnt (l ++ m)
  | [], _, _, h => h
  | (_, _) :: l, m, ⟨h1, h2⟩, h => ⟨h1, supH_append l m h2 h⟩
theorem thf_low : ∀ (l : List (Nat × Nat)), l.all (fun x => Nat.ble 8 x.1) = true → ∀ i, i < 8 → thf l i = i
  | [], _, _, _ => rfl
  | (a, b) :: l, h, i, hi => by
    simp only [List.all_cons, Bool.and_eq_true] at h
    have ha := Nat.le_of_ble_eq_true h.1
    have : Nat.beq i a = false := by
      cases hb : Nat.beq i a with
      | true => have := Nat.eq_of_beq_eq_true hb; omega
      | false => rfl
    simp only [thf, this, cond_false]
    exact thf_low l h.2 i hi
structure EntL (st : St) (l fx : List (Nat × AV)) (hl hfx : List (Nat × Chunk)) (cnt : Nat) (θ : List (Nat × Nat)) : Prop where
  e1 : EnvLe (thf θ) st.env l
  e2 : EnvLe (thf θ) st.env fx
  h1 : HpLe (thf θ) st.heap hl
  h2 : HpLe (thf θ) st.heap hfx
  inj : injB (thf θ) (hl ++ hfx) = true
  s1 : SupE cnt l
  s2 : SupE cnt fx
  s3 : SupH cnt hl
  s4 : SupH cnt hfx
  c1 : Nat.ble 1 cnt = true
  pin : θ.all (fun x => Nat.ble 8 x.1) = true
theorem EntL.ent {st : St} {l fx : List (Nat × AV)} {hl hfx : List (Nat × Chunk)} {cnt : Nat} {θ : List (Nat × Nat)} (h : EntL st l fx hl hfx cnt θ) : Ent st ⟨envOf (l ++ fx), hpOf (hl ++ hfx), cnt⟩ :=
  Ent.of (thf θ) (Nat.le_of_ble_eq_true h.c1) (thf_low θ h.pin) (envOf_append _ _ _ _ h.e1 h.e2) (hpLe_append _ _ _ _ h.h1 h.h2) h.inj (supE_append _ _ h.s1 h.s2) (supH_append _ _ h.s3 h.s4)
theorem sup0 {A : AV} {cnt : Nat} (h : A.sup = []) : ∀ s ∈ A.sup, s / 8 < cnt := nosup h
theorem sup1 {A : AV} {id cnt : Nat} (h : A.sup = [id]) (hb : Nat.blt (id / 8) cnt = true) : ∀ s ∈ A.sup, s / 8 < cnt := fun s hs => by
  rw [h] at hs
  simp only [List.mem_singleton] at hs
  subst hs
  simpa [Nat.blt_eq] using hb
theorem supg {A : AV} {cnt : Nat} (h : A.sup.all (fun i => Nat.blt (i / 8) cnt) = true) : ∀ s ∈ A.sup, s / 8 < cnt := fun s hs => by
  have := List.all_eq_true.1 h s hs
  simpa [Nat.blt_eq] using this
theorem suph {c : Chunk} {i cnt : Nat} (hi : Nat.blt (i / 8) cnt = true) (h : c.sup.all (fun i => Nat.blt (i / 8) cnt) = true) : i / 8 < cnt ∧ ∀ s ∈ c.sup, s / 8 < cnt :=
  ⟨by simpa [Nat.blt_eq] using hi, fun s hs => by
    have := List.all_eq_true.1 h s hs
    simpa [Nat.blt_eq] using this⟩
theorem hp_row {hp : Heap} {θ : Nat → Nat} {k : Nat} {t : TypeId} {e n n' : Nat} {xs xs' : List Value} (h : hp (θ k) = some (.row t e n xs)) (h1 : n = n') (h2 : xs = xs') : ∃ c, hp (θ k) = some c ∧ Chunk.leq θ c (.row t e n' xs') := ⟨_, h, .row h1 h2⟩
theorem hp_var {hp : Heap} {θ : Nat → Nat} {k : Nat} {t : TypeId} {cs ds : List AV} (h : hp (θ k) = some (.var t cs)) (h1 : All2le θ cs ds) : ∃ c, hp (θ k) = some c ∧ Chunk.leq θ c (.var t ds) := ⟨_, h, .var h1⟩
section
variable {P : Program} {N : Nat} {st : St} {Q : Exit → St → Prop}
def LoopQ {G : Type} (I : G → Prop) (fx : List (Nat × AV)) (l : G → List (Nat × AV)) (hfx : List (Nat × Chunk)) (hl : G → List (Nat × Chunk)) (cnt : Nat) (μ : G → Nat) (g : G) (Q : Exit → St → Prop) : Exit → St → Prop
  | .normal, st => ∃ g' θ, I g' ∧ μ g' < μ g ∧ EntL st (l g') fx (hl g') hfx cnt θ
  | e, st => Q e st
theorem LoopQ.next {G : Type} {I : G → Prop} {fx : List (Nat × AV)} {l : G → List (Nat × AV)} {hfx : List (Nat × Chunk)} {hl : G → List (Nat × Chunk)} {cnt : Nat} {μ : G → Nat} {g : G} (g' : G) (θ : List (Nat × Nat)) (h1 : I g') (h2 : μ g' < μ g) (h3 : EntL st (l g') fx (hl g') hfx cnt θ) : LoopQ I fx l hfx hl cnt μ g Q .normal st := ⟨g', θ, h1, h2, h3⟩
/-- A LOOP: fx, hfx: slots and memory that no round changes; l, hl: what is so behind 'g' -/
theorem W_loopx {c : Code} {G : Type} (I : G → Prop) (fx : List (Nat × AV)) (l : G → List (Nat × AV)) (hfx : List (Nat × Chunk)) (hl : G → List (Nat × Chunk)) (cnt : Nat) (μ : G → Nat) (g0 : G) (θ : List (Nat × Nat)) (hI : I g0) (h0 : EntL st (l g0) fx (hl g0) hfx cnt θ)
    (round : ∀ g, I g → W P N c ⟨envOf (l g ++ fx), hpOf (hl g ++ hfx), cnt⟩ (LoopQ I fx l hfx hl cnt μ g Q)) : W P N (.loop c) st Q :=
  W_loop I (fun g => ⟨envOf (l g ++ fx), hpOf (hl g ++ hfx), cnt⟩) μ g0 hI h0.ent fun g hg => (round g hg).mono fun e st' h => by
    cases e with
    | normal =>
      obtain ⟨g', θ', h1, h2, h3⟩ := h
      exact ⟨g', h1, h2, h3.ent⟩
    | exit _ => exact h
    | goto _ => exact h
    | ret => exact h
    | panic _ => exact h
    | outgrown => exact h
/-- ways meet again -/
def JoinQ {G : Type} (I : G → Prop) (fx : List (Nat × AV)) (l : G → List (Nat × AV)) (hfx : List (Nat × Chunk)) (hl : G → List (Nat × Chunk)) (cnt : Nat) (Q : Exit → St → Prop) : Exit → St → Prop
  | .normal, st => ∃ g θ, I g ∧ EntL st (l g) fx (hl g) hfx cnt θ
  | e, st => Q e st
theorem JoinQ.meet {G : Type} {I : G → Prop} {fx : List (Nat × AV)} {l : G → List (Nat × AV)} {hfx : List (Nat × Chunk)} {hl : G → List (Nat × Chunk)} {cnt : Nat} (g : G) (θ : List (Nat × Nat)) (h1 : I g) (h3 : EntL st (l g) fx (hl g) hfx cnt θ) : JoinQ I fx l hfx hl cnt Q .normal st := ⟨g, θ, h1, h3⟩
theorem W_join {x y : Code} {G : Type} (I : G → Prop) (fx : List (Nat × AV)) (l : G → List (Nat × AV)) (hfx : List (Nat × Chunk)) (hl : G → List (Nat × Chunk)) (cnt : Nat) (h1 : W P N x st (JoinQ I fx l hfx hl cnt Q))
    (h2 : ∀ g, I g → W P N y ⟨envOf (l g ++ fx), hpOf (hl g ++ hfx), cnt⟩ Q) : W P N (.seq x y) st Q :=
  W_seq (h1.mono fun e st' h => by
    cases e with
    | normal =>
      obtain ⟨g, θ, hI, hE⟩ := h
      exact (h2 g hI).ent hE.ent
    | exit _ => exact h
    | goto _ => exact h
    | ret => exact h
    | panic _ => exact h
    | outgrown => exact h)
end
end Ab
end Go.Proofs.Ytdcenocljnlipaa

namespace Go.Proofs.Ytdcenocljnlipaa
open Go.RowKit
namespace Ab
/-- which of n things a raw number speaks of -/
def pickV (c n : Int) : Int := (if c < 0 then 0 - (c + 1) else c) % n
theorem pickV_range (c n : Int) (hn : 0 < n) : 0 ≤ pickV c n ∧ pickV c n < n := ⟨Int.emod_nonneg _ (by omega), Int.emod_lt_of_pos _ hn⟩
def In64 (l : List Int) : Prop := ∀ x ∈ l, -9223372036854775808 ≤ x ∧ x ≤ 9223372036854775807
theorem In64.at_ {l : List Int} (h : In64 l) (i : Nat) : -9223372036854775808 ≤ l.getD i 0 ∧ l.getD i 0 ≤ 9223372036854775807 := by
  rw [List.getD_eq_getElem?_getD]
  cases hi : l[i]? with
  | none => simp
  | some x => exact h x (List.mem_of_getElem? hi)
theorem getD_lt {G : Type} (l : List G) (i : Nat) (d : G) (h : i < l.length) : l.getD i d = l[i] := by
  rw [List.getD_eq_getElem?_getD, List.getElem?_eq_getElem h]; rfl
theorem take_snoc {G : Type} (l : List G) (k : Nat) (d : G) (h : k < l.length) : l.take (k + 1) = l.take k ++ [l.getD k d] := by
  rw [List.take_succ_eq_append_getElem h, getD_lt l k d h]
theorem take_all {G : Type} (l : List G) (k : Nat) (h : l.length ≤ k) : l.take k = l := List.take_of_length_le h
theorem any_stop {G : Type} (p : G → Bool) (l : List G) (k : Nat) (d : G) (h : k < l.length) (hp : p (l.getD k d) = true) : l.any p = true :=
  List.any_eq_true.2 ⟨l.getD k d, by rw [getD_lt l k d h]; exact List.getElem_mem h, hp⟩
theorem any_step {G : Type} (p : G → Bool) (l : List G) (k : Nat) (d : G) (h : k < l.length) (h0 : (l.take k).any p = false) (hp : p (l.getD k d) = false) : (l.take (k + 1)).any p = false := by
  rw [take_snoc l k d h, List.any_append, h0]; simp only [List.any_cons, List.any_nil, hp]; rfl
theorem any_end {G : Type} (p : G → Bool) (l : List G) (k : Nat) (h : l.length ≤ k) (h0 : (l.take k).any p = false) : l.any p = false := by rwa [take_all l k h] at h0
theorem drop_cons {G : Type} (l : List G) (k : Nat) (d : G) (h : k < l.length) : l.drop k = l.getD k d :: l.drop (k + 1) := by
  rw [getD_lt l k d h]; exact List.drop_eq_getElem_cons h
abbrev I64 (x : Int) : Value := .int .i64 x
/-- moving a value of known form, and an operation that writes no memory: what is kept of them is small -/
theorem Valid.movek {P : Program} {nid : Nat} {o : Oper} {ρ : Operand → AV} {h : Heap} {x : Operand} {A : AV} (ho : o.op = .move x) (hA : ρ x = A) : Valid P nid o ρ h ⟨A, [], []⟩ := hA ▸ Valid.move ho
theorem Valid.moveS {P : Program} {nid : Nat} {o : Oper} {ρ : Operand → AV} {h : Heap} {x : Operand} {e n : Nat} {xs : List Value} (ho : o.op = .move x) (hA : Reads (ρ x) e n xs) : Valid P nid o ρ h ⟨Sl e n xs, [], []⟩ :=
  .quiet _ (nosup rfl) fun σ κ a hops => ⟨a.eval x, by unfold execOp; rw [ho]; rfl, hA σ κ _ (hops x (by rw [ho]; simp [Op.operands]))⟩
theorem Valid.assignk {P : Program} {nid : Nat} {o : Oper} {ρ : Operand → AV} {h : Heap} {x : Operand} {A : AV} (ho : o.op = .assign x) (hA : ρ x = A) : Valid P nid o ρ h ⟨A, [], []⟩ := hA ▸ Valid.assign ho
theorem Runs_p {P : Program} {N c : Nat} {ops : Array Oper} {k : Nat} {env : Env} {heap : Heap} {K : List Res → Env → Heap → Prop} {o : Oper} {os : List Oper} {A : AV} {rd : List Nat} {d : Nat} (hg : o.guard = none) (hv : Valid P (c + k) o (ρof env) heap ⟨A, rd, []⟩) (hdst : o.dst = some d) (hd : decide (d < N) = true)
    (h : Runs P N c ops (k + 1) os (upd env d A) heap (fun rs => K (⟨A, rd, []⟩ :: rs))) (hz : calmB o ⟨A, rd, []⟩ = true := by rfl) : Runs P N c ops k (o :: os) env heap K :=
  ⟨⟨A, rd, []⟩, by unfold GValid; rw [hg]; exact hv.up hz, by rw [hdst]; exact hd, by rw [hdst]; exact h⟩
theorem Runs_yesp {P : Program} {N c : Nat} {ops : Array Oper} {k : Nat} {env : Env} {heap : Heap} {K : List Res → Env → Heap → Prop} {o : Oper} {os : List Oper} {A : AV} {rd : List Nat} {j d e : Nat} {want : Bool} {g : Prop} (hg : o.guard = some (j, want)) (hj : (ops[j]?).bind (·.dst) = some d) (hβ : Grd (env d) want g) (hgg : g)
    (hv : Valid P (c + k) o (ρof env) heap ⟨A, rd, []⟩) (hdst : o.dst = some e) (hd : decide (e < N) = true)
    (h : Runs P N c ops (k + 1) os (upd env e A) heap (fun rs => K (⟨A, rd, []⟩ :: rs))) (hz : calmB o ⟨A, rd, []⟩ = true := by rfl) : Runs P N c ops k (o :: os) env heap K :=
  Runs_yes hg hj hβ hgg hv (by rw [hdst]; exact hd) (by rw [hdst]; exact h) hz
theorem Runs_w {P : Program} {N c : Nat} {ops : Array Oper} {k : Nat} {env : Env} {heap : Heap} {K : List Res → Env → Heap → Prop} {o : Oper} {os : List Oper} {A : AV} {rd : List Nat} {wr : List (Nat × Option Chunk)} {d : Nat} (hg : o.guard = none) (hv : Valid P (c + k) o (ρof env) heap ⟨A, rd, wr⟩) (hdst : o.dst = some d) (hd : decide (d < N) = true)
    (h : Runs P N c ops (k + 1) os (upd env d A) (updl heap wr) (fun rs => K (⟨A, rd, wr⟩ :: rs))) (hz : calmB o ⟨A, rd, wr⟩ = true := by rfl) : Runs P N c ops k (o :: os) env heap K :=
  ⟨⟨A, rd, wr⟩, by unfold GValid; rw [hg]; exact hv.up hz, by rw [hdst]; exact hd, by rw [hdst]; exact h⟩
theorem Runs_yesw {P : Program} {N c : Nat} {ops : Array Oper} {k : Nat} {env : Env} {heap : Heap} {K : List Res → Env → Heap → Prop} {o : Oper} {os : List Oper} {A : AV} {rd : List Nat} {wr : List (Nat × Option Chunk)} {j d e : Nat} {want : Bool} {g : Prop} (hg : o.guard = some (j, want)) (hj : (ops[j]?).bind (·.dst) = some d) (hβ : Grd (env d) want g) (hgg : g)
    (hv : Valid P (c + k) o (ρof env) heap ⟨A, rd, wr⟩) (hdst : o.dst = some e) (hd : decide (e < N) = true)
    (h : Runs P N c ops (k + 1) os (upd env e A) (updl heap wr) (fun rs => K (⟨A, rd, wr⟩ :: rs))) (hz : calmB o ⟨A, rd, wr⟩ = true := by rfl) : Runs P N c ops k (o :: os) env heap K :=
  Runs_yes hg hj hβ hgg hv (by rw [hdst]; exact hd) (by rw [hdst]; exact h) hz
theorem W_regionE {P : Program} {N : Nat} {Q : Exit → St → Prop} {id : Nat} {ops : List Oper} {env : Env} {heap : Heap} {c c' : Nat} (hg : grdB ops = true) (hc : Nat.beq (c + ops.length) c' = true)
    (h : Runs P N c ops.toArray 0 ops env heap (fun _ env heap => Q .normal ⟨env, heap, c'⟩)) : W P N (.region id ops.toArray false) ⟨env, heap, c⟩ Q := by
  have e := Nat.eq_of_beq_eq_true hc
  subst e
  exact W_region hg h
theorem W_drawE {P : Program} {N : Nat} {Q : Exit → St → Prop} {id : Nat} {ops : List Oper} {env : Env} {heap : Heap} {c c' : Nat} (hm : P.follows .mixedOrders = true) (hc : Nat.beq (c + ops.length) c' = true)
    (h : Runs P N c ops.toArray 0 ops env heap (fun rs env heap => ∃ rd wr, rs.map Res.rd = rd ∧ rs.map (fun r => r.wr.map Prod.fst) = wr ∧ indepB rd wr ops = true ∧ Q .normal ⟨env, heap, c'⟩)) : W P N (.region id ops.toArray true) ⟨env, heap, c⟩ Q := by
  have e := Nat.eq_of_beq_eq_true hc
  subst e
  exact W_draw hm h
section
variable {P : Program} {nid : Nat} {o : Oper} {ρ : Operand → AV} {h : Heap} {c x y : Operand}
theorem Valid.pickt {A : AV} (ho : o.op = .pick c x y) (hc : ρ c = Is (.bool true)) (hx : ρ x = A) : Valid P nid o ρ h ⟨A, [], []⟩ :=
  .quiet _ (fun s hs => ⟨x, by rw [ho]; simp [Op.operands], by rw [hx]; exact hs⟩) fun σ κ a hops => by
    have e1 := hops c (by rw [ho]; simp [Op.operands])
    have e2 := hops x (by rw [ho]; simp [Op.operands])
    rw [hc] at e1; rw [hx] at e2
    have e1 : a.eval c = .bool true := e1
    refine ⟨a.eval x, ?_, e2⟩
    unfold execOp
    rw [ho]
    simp [e1, asBool]
theorem Valid.pickf {A : AV} (ho : o.op = .pick c x y) (hc : ρ c = Is (.bool false)) (hy : ρ y = A) : Valid P nid o ρ h ⟨A, [], []⟩ :=
  .quiet _ (fun s hs => ⟨y, by rw [ho]; simp [Op.operands], by rw [hy]; exact hs⟩) fun σ κ a hops => by
    have e1 := hops c (by rw [ho]; simp [Op.operands])
    have e2 := hops y (by rw [ho]; simp [Op.operands])
    rw [hc] at e1; rw [hy] at e2
    have e1 : a.eval c = .bool false := e1
    refine ⟨a.eval y, ?_, e2⟩
    unfold execOp
    rw [ho]
    simp [e1, asBool]
end
/-- an operation that makes one new row, which is the call's own -/
theorem Valid.freshown {P : Program} {nid : Nat} {o : Oper} {ρ : Operand → AV} {h : Heap} {el : TypeId} {e n : Nat} {cs : List Value}
    (hrun : ∀ σ (κ : Kw) (a : Act), (∀ x ∈ o.op.operands, (ρ x).p σ κ (a.eval x)) → (execOp a.eval o).run P κ.w = .ok (.value (.slice (some ⟨κ.w.heap.size, 0, none⟩) n n)) (κ.w.alloc (.cells cs.toArray el)))
    (hl : cs.length = n * e) (hn : n ≤ maxLen) : Valid P nid o ρ h ⟨Own (8 * nid) e n cs, [], [(8 * nid, some (.row el e n cs))]⟩ where
  run := fun base σ κ h' a next Q hops hrd hr hbase _ hfr hk => by
    have hid8 : 8 * nid / 8 = nid := by omega
    have hrun' := hrun σ κ a hops
    let κ' := κ.new (.cells cs.toArray el) (some (n * e))
    have hat := κ.new_at (.cells cs.toArray el) (some (n * e))
    have how : κ'.w.ownsRow 0 el e (.slice (some ⟨κ.w.heap.size, 0, none⟩) n n) n cs :=
      ⟨hl, .inr ⟨_, n, cs.toArray, rfl, Nat.zero_le _, hat.1, Nat.le_refl _, hn, by simp [hl], by simp [← hl]⟩⟩
    have hon : ∀ g, blk (.slice (some ⟨κ.w.heap.size, 0, none⟩) n n) = some g → κ'.own g = some (n * e) := fun g hg => by
      cases hg; exact hat.2
    have hv'' : ∀ g, blk (.slice (some ⟨κ.w.heap.size, 0, none⟩) n n) = some g → g = κ.w.heap.size := fun g hg => by cases hg; rfl
    have hold : ∀ b, b < κ.w.heap.size → κ'.own b = κ.own b ∧ κ'.w.heap[b]? = κ.w.heap[b]? := fun b hb => κ.new_old _ _ b hb
    have hle : κ.le κ' := κ.new_le _ _
    unfold Oper.wp
    rw [hrun']
    refine hk _ (upd σ (8 * nid) (.slice (some ⟨κ.w.heap.size, 0, none⟩) n n)) κ' hle (fun b hb' => hold b (hbase b hb')) (fun i hi => upd_other _ _ _ _ (fun e => hi (by omega))) ⟨(upd_same _ _ _).symm, own_sl how hon⟩ ?_
    refine hr.set hle (8 * nid) _ (.row el e n cs) (fun _ => false) (fun i d hd hi _ g hg => ?_) ⟨how, hon⟩ (fun i g hi hi8 _ hg he => ?_) (fun g hg => ?_) (fun i d hd _ _ j hj => upd_other _ _ _ _ (fun e => (hfr i d hd).2 j hj (by omega))) _ (upd_same _ _ _) (fun i hi _ => upd_other _ _ _ _ hi) (fun i _ hf => by cases hf)
    · have := hold g (blk_lt hr hd hg)
      exact ⟨this.2, this.1⟩
    · cases hd : h' i with
      | none => exact hi hd
      | some d =>
        have h2 := hv'' g he
        have := blk_lt hr hd hg; omega
    · have h2 := hv'' g hg; intro hbg; have := hbase g hbg; omega
  sup := fun U _ _ => ⟨fun s hs => .inr (by have : s ∈ [8 * nid] := hs; simp at this; omega), fun i c hc s hs => by
    simp only [List.mem_singleton, Prod.mk.injEq, Option.some.injEq] at hc
    obtain ⟨_, rfl⟩ := hc
    cases hs⟩
  wr := fun x hx => by simp at hx; subst hx; exact .inr (by simp)
theorem parts_known {ρ : Operand → AV} {σ : Names} {κ : Kw} {a : Act} : ∀ (ps : List (Nat × Operand)) (vs : List (Nat × Value)), (∀ x ∈ ps, (ρ x.2).p σ κ (a.eval x.2)) → ps.map (fun x => (x.1, ρ x.2)) = vs.map (fun x => (x.1, Is x.2)) → ps.map (fun x => (x.1, a.eval x.2)) = vs := by
  intro ps
  induction ps with
  | nil => intro vs _ h; cases vs with
    | nil => rfl
    | cons _ _ => cases h
  | cons p ps ih =>
    intro vs h1 h2
    cases vs with
    | nil => cases h2
    | cons v vs =>
      simp only [List.map_cons, List.cons.injEq, Prod.mk.injEq] at h2 ⊢
      refine ⟨?_, ih vs (fun x hx => h1 x (by simp [hx])) h2.2⟩
      have h3 := h1 p (by simp)
      rw [h2.1.2] at h3
      have h3 : a.eval p.2 = v.2 := h3
      rw [h3, h2.1.1]
theorem Valid.litown {P : Program} {nid : Nat} {o : Oper} {ρ : Operand → AV} {h : Heap} {t el : TypeId} {n : Nat} {parts : Array (Nat × Operand)} (vs : List Value) (ho : o.op = .buildSlice t n parts)
    (hp : parts.toList.map (fun x => (x.1, ρ x.2)) = (pairs 0 vs).map (fun x => (x.1, Is x.2)))
    (hrun : ∀ w : World, (Instr.buildSlice t n (pairs 0 vs).toArray).run P w = .ok (.slice (some ⟨w.heap.size, 0, none⟩) n n) (w.alloc (.cells vs.toArray el))) (hl : vs.length = n) (hn : n ≤ maxLen) :
    Valid P nid o ρ h ⟨Own (8 * nid) 1 n vs, [], [(8 * nid, some (.row el 1 n vs))]⟩ :=
  .freshown (fun σ κ a hops => by
    have hv : (parts.map fun x => (x.1, a.eval x.2)) = (pairs 0 vs).toArray := by
      apply Array.ext'
      rw [Array.toList_map]
      exact parts_known parts.toList _ (fun x hx => hops x.2 (by rw [ho]; simp [Op.operands]; exact ⟨x.1, by simpa using hx⟩)) hp
    unfold execOp
    rw [ho]
    simp only [hv, hrun, Sem.run_bind, Result.andThen_ok, Sem.run_pure]) (by omega) hn
theorem made_ints (k : IntKind) (n : Nat) : madeCells (Value.cells (.int k 0)) n = (List.replicate n (Value.int k 0)).toArray := by
  apply Array.ext'
  apply List.ext_getElem
  · simp [madeCells]
  · intro i h1 h2
    simp [madeCells, Value.cells, Nat.mod_one]
theorem Valid.makeown {P : Program} {nid : Nat} {o : Oper} {ρ : Operand → AV} {h : Heap} {x y : Operand} {t el : TypeId} {kl kc kk : IntKind} {a : Int} {bytes : Nat} (ho : o.op = .makeSlice t x y) (ht : P.underlying t = some (.slice el)) (hi : (P.info? el).map (fun i => (i.zero, i.size, i.bytes)) = some (some (.int kk 0), 1, bytes))
    (hx : ρ x = Is (.int kl a)) (hy : ρ y = Is (.int kc a)) (h0 : 0 ≤ a) (hb : (bytes : Int) * a ≤ 281474976710656) (h63 : a ≤ 9223372036854775807) : Valid P nid o ρ h ⟨Own (8 * nid) 1 a.toNat (List.replicate a.toNat (.int kk 0)), [], [(8 * nid, some (.row el 1 a.toNat (List.replicate a.toNat (.int kk 0))))]⟩ :=
  .freshown (fun σ κ ac hops => by
    have e1 := hops x (by rw [ho]; simp [Op.operands])
    have e2 := hops y (by rw [ho]; simp [Op.operands])
    rw [hx] at e1; rw [hy] at e2
    have e1 : ac.eval x = .int kl a := e1
    have e2 : ac.eval y = .int kc a := e2
    obtain ⟨i, hi', hz, hs, hby⟩ : ∃ i, P.info? el = some i ∧ i.zero = some (.int kk 0) ∧ i.size = 1 ∧ i.bytes = bytes := by
      cases h : P.info? el with
      | none => rw [h] at hi; cases hi
      | some i =>
        rw [h] at hi
        simp only [Option.map_some, Option.some.injEq, Prod.mk.injEq] at hi
        exact ⟨i, rfl, hi.1, hi.2.1, hi.2.2⟩
    have hr := run_make (P := P) κ.w t el i _ ht hi' hz kl kc a a h0 (Int.le_refl _) (by rw [hby]; exact hb) h63
    rw [hs, Nat.mul_one, made_ints] at hr
    unfold execOp
    rw [ho]
    simp only [e1, e2, hr, Sem.run_bind, Result.andThen_ok, Sem.run_pure]) (by simp) (by simp only [maxLen]; omega)
theorem one_app {xs ys : List Value} (h1 : ∀ u ∈ xs, u.oneCell' = true) (h2 : ∀ u ∈ ys, u.oneCell' = true) : ∀ u ∈ xs ++ ys, u.oneCell' = true := fun u hu => by
  rcases List.mem_append.1 hu with h | h
  · exact h1 u h
  · exact h2 u h
theorem one_rep {v : Value} {n : Nat} (h : v.oneCell' = true) : ∀ u ∈ List.replicate n v, u.oneCell' = true := fun u hu => by
  rw [List.eq_of_mem_replicate hu]; exact h
theorem toNat_add (a b : Nat) : ((a : Int) + (b : Int)).toNat = a + b := by omega
theorem toNat_add1 (a : Nat) : ((a : Int) + 1).toNat = a + 1 := by omega
end Ab
end Go.Proofs.Ytdcenocljnlipaa
