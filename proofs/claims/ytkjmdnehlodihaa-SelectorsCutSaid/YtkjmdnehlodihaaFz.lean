/-
  MATHEMATICS of stage 5, as far as stage 12 wants it; WALKS of its reference.
-/
import Derived.Test.YtkjmdnehlodihaaRows
import Derived.Test.YtkjmdnehlodihaaAbs
import Derived.Test.YtkjmdnehlodihaaBb
import Derived.Test.YtkjmdnehlodihaaCm
namespace Go.Proofs.Ytkjmdnehlodihaa
open Go.RowKit
namespace Fz
open Ab Cm
theorem ag3 (w : World) : (isAgg 3).run Try.prog w = .ok false w := by kernel_rfl
theorem sz3 (w : World) : (sizeOf 3).run Try.prog w = .ok 1 w := by kernel_rfl
theorem ti3 : TI Try.prog 3 1 8 := .mk' (z := (Value.int .i64 0)) (by kernel_rfl) rfl
/-- the byte at a place comes to the front -/
def mtf (l : List UInt8) (at_ : Nat) : List UInt8 := l.getD at_ 0 :: (l.take at_ ++ l.drop (at_ + 1))
theorem mtf_len (l : List UInt8) (k : Nat) (h : k < l.length) : (mtf l k).length = l.length := by simp [mtf]; omega
theorem mtf_cut (l : List UInt8) (k n : Nat) (h : k < l.length) (hn : n = k) : (l.take 1 ++ (l.drop 0).take n ++ l.drop (1 + n)).set 0 (l.getD k 0) = mtf l k := by
  subst hn
  cases l with
  | nil => simp at h
  | cons a l => simp [mtf, Nat.add_comm 1 n]

/-- the alphabet, and what is told, behind so many bytes -/
def idx (l : List UInt8) (c : UInt8) : Int := Lib.indexByte l c
def frL (l : List UInt8) (s : ByteArray) : Nat → List UInt8
  | 0 => l
  | k + 1 => mtf (frL l s k) (idx (frL l s k) (bat s k)).toNat
  termination_by k => k
def plL (l : List UInt8) (s : ByteArray) : Nat → List Int
  | 0 => []
  | k + 1 => plL l s k ++ [idx (frL l s k) (bat s k)]
  termination_by k => k
theorem idx_lt (l : List UInt8) (c : UInt8) : idx l c < l.length := by
  unfold idx
  induction l with
  | nil => show (-1 : Int) < 0; decide
  | cons b l ih =>
    unfold Lib.indexByte
    simp only [List.length_cons]
    split
    · omega
    · split <;> omega
theorem idx_ge (l : List UInt8) (c : UInt8) : -1 ≤ idx l c := Lib.indexByte_ge l c
def okF (l : List UInt8) (s : ByteArray) : Prop := ∀ k, k < s.size → 0 ≤ idx (frL l s k) (bat s k)
instance (l : List UInt8) (s : ByteArray) : Decidable (okF l s) := inferInstanceAs (Decidable (∀ k, k < s.size → _))
theorem frL_0 (l : List UInt8) (s : ByteArray) : frL l s 0 = l := by rw [frL]
theorem frL_1 (l : List UInt8) (s : ByteArray) (k : Nat) : mtf (frL l s k) (Lib.indexByte (frL l s k) (bat s k)).toNat = frL l s (k + 1) := by rw [frL]; rfl
theorem plL_0 (l : List UInt8) (s : ByteArray) : plL l s 0 = [] := by rw [plL]
theorem plL_1 (l : List UInt8) (s : ByteArray) (k : Nat) : plL l s k ++ [Lib.indexByte (frL l s k) (bat s k)] = plL l s (k + 1) := by rw [plL]; rfl
theorem plL_1m (l : List UInt8) (s : ByteArray) (k : Nat) : (plL l s k).map I64 ++ [I64 (Lib.indexByte (frL l s k) (bat s k))] = (plL l s (k + 1)).map I64 := by rw [← plL_1]; simp
theorem plL_len (l : List UInt8) (s : ByteArray) : ∀ k, (plL l s k).length = k
  | 0 => by rw [plL_0]; rfl
  | k + 1 => by rw [plL, List.length_append, plL_len l s k]; rfl
theorem mtf_len2 (l : List UInt8) (k : Nat) (_h : l ≠ []) (hk : k < l.length) : (mtf l k).length = l.length := mtf_len l k hk
theorem frL_len (l : List UInt8) (s : ByteArray) : ∀ k, (∀ j, j < k → 0 ≤ idx (frL l s j) (bat s j)) → (frL l s k).length = l.length
  | 0, _ => by rw [frL_0]
  | k + 1, h => by
    have ih := frL_len l s k (fun j hj => h j (by omega))
    have h1 := h k (by omega); have h2 := idx_lt (frL l s k) (bat s k)
    rw [frL, mtf_len _ _ (by omega), ih]

def RightP (s : ByteArray) : Prop := ∀ i, i < s.size → ∀ j, j < i → bat s (j : Int) ≠ bat s (i : Int)
instance (s : ByteArray) : Decidable (RightP s) := inferInstanceAs (Decidable (∀ i, i < s.size → ∀ j, j < i → _))
def hasL (s : ByteArray) : Nat → List Bool
  | 0 => List.replicate 256 false
  | k + 1 => (hasL s k).set (bat s (k : Int)).toNat true
  termination_by k => k
theorem has_0 (s : ByteArray) : List.replicate 256 false = hasL s 0 := by rw [hasL]
theorem has_1 (s : ByteArray) (k : Nat) : (hasL s k).set (bat s (k : Int)).toNat true = hasL s (k + 1) := by rw [hasL]
theorem has_len (s : ByteArray) : ∀ k, (hasL s k).length = 256
  | 0 => by rw [hasL, List.length_replicate]
  | k + 1 => by rw [hasL, List.length_set, has_len s k]
theorem has_at (s : ByteArray) : ∀ k x, (hasL s k).getD x false = true ↔ ∃ j, j < k ∧ (bat s (j : Int)).toNat = x
  | 0, x => by
    rw [hasL]
    simp only [List.getD_eq_getElem?_getD, List.getElem?_replicate]
    constructor
    · intro h; split at h <;> simp at h
    · rintro ⟨j, hj, _⟩; omega
  | k + 1, x => by
    have ih := has_at s k x
    have hl := has_len s k
    have hb := (bat s (k : Int)).toNat_lt
    rw [hasL, List.getD_eq_getElem?_getD, List.getElem?_set]
    by_cases e : (bat s (k : Int)).toNat = x
    · rw [if_pos e, if_pos (by omega)]
      exact ⟨fun _ => ⟨k, by omega, e⟩, fun _ => rfl⟩
    · rw [if_neg e, ← List.getD_eq_getElem?_getD, ih]
      constructor
      · rintro ⟨j, h1, h2⟩; exact ⟨j, by omega, h2⟩
      · rintro ⟨j, h1, h2⟩
        have : j ≠ k := fun e2 => e (by rw [← e2]; exact h2)
        exact ⟨j, by omega, h2⟩
theorem right_no (s : ByteArray) (k : Nat) (hk : k < s.size) (h : (hasL s k).getD (bat s (k : Int)).toNat false = true) : ¬ RightP s := fun hR => by
  obtain ⟨j, h1, h2⟩ := (has_at s k _).1 h
  exact hR k hk j h1 (UInt8.toNat_inj.1 h2)
theorem right_new (s : ByteArray) (k : Nat) (h : (hasL s k).getD (bat s (k : Int)).toNat false = false) : ∀ j, j < k → bat s (j : Int) ≠ bat s (k : Int) := fun j hj e => by
  rw [(has_at s k _).2 ⟨j, hj, by rw [e]⟩] at h
  cases h

def frontV (a s : ByteArray) : List Int × Int := if ¬ RightP a then ([], 1) else if okF a.data.toList s then (plL a.data.toList s s.size, 0) else ([], 5)
def afterV (a s : ByteArray) : ByteArray × Int := if ¬ RightP a then (ByteArray.empty, 1) else if okF a.data.toList s then (⟨(frL a.data.toList s s.size).toArray⟩, 0) else (ByteArray.empty, 5)

theorem frontV_ok {a s : ByteArray} (hR : RightP a) (hok : okF a.data.toList s) : frontV a s = (plL a.data.toList s s.size, 0) := by rw [frontV, if_neg (by simpa using hR), if_pos hok]
theorem frontV_no {a s : ByteArray} (hno : RightP a → ¬ okF a.data.toList s) : (frontV a s).1 = [] ∧ (frontV a s).2 ≠ 0 := by
  unfold frontV
  by_cases hR : RightP a
  · rw [if_neg (by simpa using hR), if_neg (hno hR)]; exact ⟨rfl, by simp⟩
  · rw [if_pos hR]; exact ⟨rfl, by simp⟩
theorem afterV_ok {a s : ByteArray} (hR : RightP a) (hok : okF a.data.toList s) : afterV a s = (⟨(frL a.data.toList s s.size).toArray⟩, 0) := by rw [afterV, if_neg (by simpa using hR), if_pos hok]
theorem afterV_no {a s : ByteArray} (hno : RightP a → ¬ okF a.data.toList s) : (afterV a s).1 = ByteArray.empty ∧ (afterV a s).2 = (frontV a s).2 := by
  unfold afterV frontV
  by_cases hR : RightP a
  · rw [if_neg (by simpa using hR), if_neg (hno hR), if_neg (by simpa using hR), if_neg (hno hR)]; exact ⟨rfl, rfl⟩
  · rw [if_pos hR, if_pos hR]; exact ⟨rfl, rfl⟩

/-! back again -/
def bkL (l : List UInt8) (p : List Int) : Nat → List UInt8
  | 0 => l
  | k + 1 => mtf (bkL l p k) (p.getD k 0).toNat
  termination_by k => k
def txL (l : List UInt8) (p : List Int) : Nat → List UInt8
  | 0 => []
  | k + 1 => txL l p k ++ [(bkL l p k).getD (p.getD k 0).toNat 0]
  termination_by k => k
def okB (l : List UInt8) (p : List Int) : Prop := ∀ k, k < p.length → 0 ≤ p.getD k 0 ∧ p.getD k 0 < l.length
instance (l : List UInt8) (p : List Int) : Decidable (okB l p) := inferInstanceAs (Decidable (∀ k, k < p.length → _))
theorem bkL_0 (l : List UInt8) (p : List Int) : bkL l p 0 = l := by rw [bkL]
theorem bkL_1 (l : List UInt8) (p : List Int) (k : Nat) : mtf (bkL l p k) (p.getD (k : Int).toNat 0).toNat = bkL l p (k + 1) := by rw [bkL]; rfl
theorem txL_0 (l : List UInt8) (p : List Int) : txL l p 0 = [] := by rw [txL]
theorem txL_1m (l : List UInt8) (p : List Int) (k : Nat) : (txL l p k).map B ++ [B ((bkL l p k).getD (p.getD (k : Int).toNat 0).toNat 0)] = (txL l p (k + 1)).map B := by rw [txL, List.map_append]; rfl
theorem txL_len (l : List UInt8) (p : List Int) : ∀ k, (txL l p k).length = k
  | 0 => by rw [txL_0]; rfl
  | k + 1 => by rw [txL, List.length_append, txL_len l p k]; rfl
theorem bkL_len (l : List UInt8) (p : List Int) : ∀ k, (∀ j, j < k → 0 ≤ p.getD j 0 ∧ p.getD j 0 < l.length) → (bkL l p k).length = l.length
  | 0, _ => by rw [bkL_0]
  | k + 1, h => by
    have ih := bkL_len l p k (fun j hj => h j (by omega))
    have h1 := h k (by omega)
    rw [bkL, mtf_len _ _ (by omega), ih]

def backV (a : ByteArray) (p : List Int) : ByteArray × Int := if ¬ RightP a then (ByteArray.empty, 1) else if okB a.data.toList p then (⟨(txL a.data.toList p p.length).toArray⟩, 0) else (ByteArray.empty, 5)


theorem bat_list (s : ByteArray) (k : Nat) : bat s (k : Int) = s.data.toList.getD k 0 := rfl
theorem idx_step {l : List UInt8} {c : UInt8} : ∀ {k : Nat}, k < l.length → (∀ j, j < k → l.getD j 0 ≠ c) → l.getD k 0 = c → idx l c = k
  | k, h1, h2, h3 => by
    induction l generalizing k with
    | nil => simp at h1
    | cons b l ih =>
      unfold idx Lib.indexByte
      cases k with
      | zero =>
        have : b = c := h3
        subst this; simp
      | succ k =>
        have hb : ¬ b = c := h2 0 (by omega)
        have := ih (k := k) (by simpa using h1) (fun j hj => h2 (j + 1) (by omega)) h3
        unfold idx at this
        rw [if_neg (by simpa using hb), this, if_neg (by simp)]
        rfl
theorem idx_none {l : List UInt8} {c : UInt8} (h : ∀ j, j < l.length → l.getD j 0 ≠ c) : idx l c = -1 := by
  induction l with
  | nil => rfl
  | cons b l ih =>
    have hb : ¬ b = c := h 0 (by simp)
    have := ih (fun j hj => h (j + 1) (by simpa using hj))
    unfold idx at this ⊢
    unfold Lib.indexByte
    rw [if_neg (by simpa using hb), this]; rfl
theorem idx_at {l : List UInt8} {c : UInt8} (h : 0 ≤ idx l c) : l.getD (idx l c).toNat 0 = c ∧ ∀ j, j < (idx l c).toNat → l.getD j 0 ≠ c := by
  induction l with
  | nil => exact absurd h (by show ¬ (0 : Int) ≤ -1; omega)
  | cons b l ih =>
    unfold idx Lib.indexByte at h ⊢
    by_cases hb : b = c
    · subst hb; simp
    · rw [if_neg (by simpa using hb)] at h ⊢
      by_cases h1 : Lib.indexByte l c = -1
      · rw [if_pos (by simpa using h1)] at h; omega
      · have hge := Lib.indexByte_ge l c
        rw [if_neg (by simpa using h1)] at h ⊢
        have ih := ih (by unfold idx; omega)
        unfold idx at ih
        have e : (Lib.indexByte l c + 1).toNat = (Lib.indexByte l c).toNat + 1 := by omega
        rw [e]
        refine ⟨ih.1, fun j hj => ?_⟩
        cases j with
        | zero => exact hb
        | succ j => exact ih.2 j (by omega)
theorem idx_mem {l : List UInt8} {c : UInt8} : 0 ≤ idx l c ↔ c ∈ l := by
  constructor
  · intro h
    have h1 := (idx_at h).1; have h2 := idx_lt l c
    rw [← h1, getD_lt l _ 0 (by omega)]
    exact List.getElem_mem _
  · intro h
    refine Classical.byContradiction fun hc => ?_
    have hge := idx_ge l c
    obtain ⟨k, hk, e⟩ := List.mem_iff_getElem.1 h
    have : ∀ n j, j < n → j < l.length → l.getD j 0 ≠ c := by
      intro n
      induction n with
      | zero => intro j hj; omega
      | succ n ih =>
        intro j hj hjl e2
        have := idx_step (k := j) hjl (fun i hi => ih i (by omega) (by omega)) e2
        omega
    exact this (k + 1) k (by omega) hk (by rw [getD_lt l k 0 hk, e])
theorem beq_u8 {a b : UInt8} (h : ((a.toNat : Nat) : Int) = ((b.toNat : Nat) : Int)) : a = b := UInt8.toNat_inj.1 (by omega)
theorem bne_u8 {a b : UInt8} (h : ¬ ((a.toNat : Nat) : Int) = ((b.toNat : Nat) : Int)) : a ≠ b := fun e => h (by rw [e])

set_option maxRecDepth 100000 in
set_option maxHeartbeats 1000000 in
theorem place_s (a : ByteArray) (c : UInt8) (ha : a.size ≤ 1000000000) :
    FPure Try.prog 50 [Is (.string a), Is (.int .u8 (c.toNat : Int))] (Is (.int .i64 (idx a.data.toList c))) := by
  refine FPure.of Try.func50 Try.ntmps50 rfl (by kernel_rfl) rfl rfl rfl ?_
  refine W_seq ?_
  refine W_regionE (c := 1) (c' := 2) (by kernel_rfl) rfl ?_
  refine Runs_p rfl (Valid.assignk (A := Is _) rfl rfl) rfl rfl ?_ -- ref.go:9 assign
  refine Runs_nil ?_
  refine thenQ_n ?_
  refine W_seq ?_
  refine W_seq ?_
  refine W_regionE (c := 2) (c' := 3) (by kernel_rfl) rfl ?_
  refine Runs_p rfl (Valid.assignk (A := Is _) rfl rfl) rfl rfl ?_ -- ref.go:10 assign
  refine Runs_nil ?_
  refine thenQ_n ?_
  refine W_block ?_
  refine W_loopx (G := Nat) (fun (k : Nat) => k ≤ a.size ∧ ∀ j, j < k → a.data.toList.getD j 0 ≠ c) [(0, Is _), (1, Is _)] (fun (k : Nat) => [(5, Is (.int .i64 (k : Int)))]) [] (fun (k : Nat) => []) 3 (fun (k : Nat) => a.size - k) (0) [] (⟨by omega, fun j hj => by omega⟩) ⟨⟨(leq_is rfl rfl (by first | rfl | (simp; done) | omega | (simp [toNat_add, toNat_add1, Nat.add_assoc]; done) | (simp [toNat_add, toNat_add1]; omega))), trivial⟩, ⟨(leq_is rfl rfl rfl), (leq_is rfl rfl rfl), trivial⟩, trivial, trivial, rfl, ⟨supg rfl, trivial⟩, ⟨supg rfl, supg rfl, trivial⟩, trivial, trivial, rfl, rfl⟩ ?_
  intro k hI1
  obtain ⟨hk1, hk2⟩ := hI1
  refine W_seq ?_
  refine W_seq ?_
  refine W_regionE (c := 3) (c' := 7) (by kernel_rfl) rfl ?_
  refine Runs_p rfl (Valid.movek (A := Is _) rfl rfl) rfl rfl ?_ -- ref.go:10 move
  refine Runs_p rfl (Valid.movek (A := Is _) rfl rfl) rfl rfl ?_ -- ref.go:10 move
  refine Runs_p rfl (Valid.slen rfl Try.underlying9 rfl) rfl rfl ?_ -- ref.go:10 call
  refine Runs_p rfl (Valid.lss rfl rfl rfl) rfl rfl ?_ -- ref.go:10 binOp
  refine Runs_nil ?_
  refine thenQ_n ?_
  refine W_cond _ rfl (fun hb1 => ?_) (fun hb1 => ?_)
  · try simp only [decide_eq_true_eq] at hb1
    all_goals (
      refine W_skip ?_
      refine thenQ_n ?_
      refine W_seq ?_
      refine W_block ?_
      refine W_seq ?_
      refine W_regionE (c := 7) (c' := 12) (by kernel_rfl) rfl ?_
      refine Runs_p rfl (Valid.movek (A := Is _) rfl rfl) rfl rfl ?_ -- ref.go:11 move
      refine Runs_p rfl (Valid.movek (A := Is _) rfl rfl) rfl rfl ?_ -- ref.go:11 move
      refine Runs_p rfl (Valid.sindex rfl Try.underlying9 rfl rfl (by first | omega | (simp only [Int.toNat_natCast, toNat_add, toNat_add1, List.length_append, List.length_cons, List.length_nil, List.length_replicate]; omega))) rfl rfl ?_ -- ref.go:11 index
      refine Runs_p rfl (Valid.movek (A := Is _) rfl rfl) rfl rfl ?_ -- ref.go:11 move
      refine Runs_p rfl (Valid.eql rfl rfl rfl) rfl rfl ?_ -- ref.go:11 binOp
      refine Runs_nil ?_
      refine thenQ_n ?_
      refine W_cond _ rfl (fun hb2 => ?_) (fun hb2 => ?_)
      · try simp only [decide_eq_true_eq] at hb2
        all_goals (
          refine W_seq ?_
          refine W_regionE (c := 12) (c' := 14) (by kernel_rfl) rfl ?_
          refine Runs_p rfl (Valid.movek (A := Is _) rfl rfl) rfl rfl ?_ -- ref.go:12 move
          refine Runs_p rfl (Valid.assignk (A := Is _) rfl rfl) rfl rfl ?_ -- ref.go:12 assign
          refine Runs_nil ?_
          refine thenQ_n ?_
          refine W_ret ?_
          refine blockQ_r ?_
          refine thenQ_r ?_
          refine loopQ_r ?_
          refine blockQ_r ?_
          refine thenQ_r ?_
          refine finQ_r ?_
          refine ResOk.one rfl (RVal.is rfl rfl (by first | (rw [idx_none (fun j hj => hk2 j (by have : a.data.toList.length = a.size := rfl; omega))]) | (rw [idx_step (k := k) (by have : a.data.toList.length = a.size := rfl; omega) hk2 (beq_u8 (by assumption))])))
          done)
      · try simp only [decide_eq_false_iff_not] at hb2
        all_goals (
          refine W_skip ?_
          refine blockQ_n ?_
          refine thenQ_n ?_
          refine W_regionE (c := 12) (c' := 15) (by kernel_rfl) rfl ?_
          refine Runs_p rfl (Valid.movek (A := Is _) rfl rfl) rfl rfl ?_ -- ref.go:10 move
          refine Runs_p rfl (Valid.add rfl rfl rfl (room64 (by first | omega | (simp only [Int.toNat_natCast, toNat_add, toNat_add1, List.length_append, List.length_cons, List.length_nil, List.length_replicate]; omega)) (by first | omega | (simp only [Int.toNat_natCast, toNat_add, toNat_add1, List.length_append, List.length_cons, List.length_nil, List.length_replicate]; omega)))) rfl rfl ?_ -- ref.go:10 binOp
          refine Runs_p rfl (Valid.assignk (A := Is _) rfl rfl) rfl rfl ?_ -- ref.go:10 assign
          refine Runs_nil ?_
          refine LoopQ.next (k + 1) [] (⟨by omega, fun j hj => (by
                by_cases e : j = k
                · subst e; exact bne_u8 (by assumption)
                · exact hk2 j (by omega))⟩) (by first | omega | (dsimp only; omega)) ⟨⟨(leq_is rfl rfl (by first | rfl | (simp; done) | omega | (simp [toNat_add, toNat_add1, Nat.add_assoc]; done) | (simp [toNat_add, toNat_add1]; omega))), trivial⟩, ⟨(leq_is rfl rfl rfl), (leq_is rfl rfl rfl), trivial⟩, trivial, trivial, rfl, ⟨supg rfl, trivial⟩, ⟨supg rfl, supg rfl, trivial⟩, trivial, trivial, rfl, rfl⟩
          done)
      done)
  · try simp only [decide_eq_false_iff_not] at hb1
    all_goals (
      refine W_exit ?_
      refine thenQ_e ?_
      refine loopQ_e ?_
      refine blockQ_x ?_
      refine thenQ_n ?_
      refine W_seq ?_
      refine W_regionE (c := 7) (c' := 8) (by kernel_rfl) rfl ?_
      refine Runs_p rfl (Valid.assignk (A := Is _) rfl rfl) rfl rfl ?_ -- ref.go:15 assign
      refine Runs_nil ?_
      refine thenQ_n ?_
      refine W_ret ?_
      refine finQ_r ?_
      refine ResOk.one rfl (RVal.is rfl rfl (by first | (rw [idx_none (fun j hj => hk2 j (by have : a.data.toList.length = a.size := rfl; omega))]) | (rw [idx_step (k := k) (by have : a.data.toList.length = a.size := rfl; omega) hk2 (beq_u8 (by assumption))])))
      done)

theorem right_idx (a : ByteArray) (k : Nat) (hk : k < a.size) : (∀ j, j < k → bat a (j : Int) ≠ bat a (k : Int)) ↔ ¬ idx a.data.toList (bat a (k : Int)) < k := by
  have hl : a.data.toList.length = a.size := rfl
  have hm : 0 ≤ idx a.data.toList (bat a (k : Int)) := idx_mem.2 (by
    rw [bat_list, getD_lt _ _ _ (by omega)]; exact List.getElem_mem _)
  have h1 := idx_at hm
  constructor
  · intro h h2
    have := h (idx a.data.toList (bat a (k : Int))).toNat (by omega)
    rw [bat_list] at this
    exact this h1.1
  · intro h j hj e
    exact h1.2 j (by omega) e

set_option maxRecDepth 100000 in
set_option maxHeartbeats 1000000 in
theorem rright_s (a : ByteArray) (ha : a.size ≤ 1000000000) :
    FPure Try.prog 44 [Is (.string a)] (Is (.bool (decide (RightP a)))) := by
  refine FPure.of Try.func44 Try.ntmps44 rfl (by kernel_rfl) rfl rfl rfl ?_
  refine W_seq ?_
  refine W_regionE (c := 1) (c' := 2) (by kernel_rfl) rfl ?_
  refine Runs_p rfl (Valid.assignk (A := Is _) rfl rfl) rfl rfl ?_ -- ref.go:19 assign
  refine Runs_nil ?_
  refine thenQ_n ?_
  refine W_seq ?_
  refine W_seq ?_
  refine W_regionE (c := 2) (c' := 3) (by kernel_rfl) rfl ?_
  refine Runs_p rfl (Valid.assignk (A := Is _) rfl rfl) rfl rfl ?_ -- ref.go:20 assign
  refine Runs_nil ?_
  refine thenQ_n ?_
  refine W_block ?_
  refine W_loopx (G := Nat) (fun (k : Nat) => k ≤ a.size ∧ ∀ i, i < k → ∀ j, j < i → bat a (j : Int) ≠ bat a (i : Int)) [(0, Is _)] (fun (k : Nat) => [(3, Is (.int .i64 (k : Int)))]) [] (fun (k : Nat) => []) 3 (fun (k : Nat) => a.size - k) (0) [] (⟨by omega, fun i hi => by omega⟩) ⟨⟨(leq_is rfl rfl (by first | rfl | (simp; done) | omega | (simp [toNat_add, toNat_add1, Nat.add_assoc]; done) | (simp [toNat_add, toNat_add1]; omega))), trivial⟩, ⟨(leq_is rfl rfl rfl), trivial⟩, trivial, trivial, rfl, ⟨supg rfl, trivial⟩, ⟨supg rfl, trivial⟩, trivial, trivial, rfl, rfl⟩ ?_
  intro k hI1
  obtain ⟨hk1, hk2⟩ := hI1
  refine W_seq ?_
  refine W_seq ?_
  refine W_regionE (c := 3) (c' := 7) (by kernel_rfl) rfl ?_
  refine Runs_p rfl (Valid.movek (A := Is _) rfl rfl) rfl rfl ?_ -- ref.go:20 move
  refine Runs_p rfl (Valid.movek (A := Is _) rfl rfl) rfl rfl ?_ -- ref.go:20 move
  refine Runs_p rfl (Valid.slen rfl Try.underlying9 rfl) rfl rfl ?_ -- ref.go:20 call
  refine Runs_p rfl (Valid.lss rfl rfl rfl) rfl rfl ?_ -- ref.go:20 binOp
  refine Runs_nil ?_
  refine thenQ_n ?_
  refine W_cond _ rfl (fun hb1 => ?_) (fun hb1 => ?_)
  · try simp only [decide_eq_true_eq] at hb1
    all_goals (
      refine W_skip ?_
      refine thenQ_n ?_
      refine W_seq ?_
      refine W_block ?_
      refine W_seq ?_
      refine W_regionE (c := 7) (c' := 14) (by kernel_rfl) rfl ?_
      refine Runs_p rfl (Valid.movek (A := Is _) rfl rfl) rfl rfl ?_ -- ref.go:21 move
      refine Runs_p rfl (Valid.movek (A := Is _) rfl rfl) rfl rfl ?_ -- ref.go:21 move
      refine Runs_p rfl (Valid.movek (A := Is _) rfl rfl) rfl rfl ?_ -- ref.go:21 move
      refine Runs_p rfl (Valid.sindex rfl Try.underlying9 rfl rfl (by first | omega | (simp only [Int.toNat_natCast, toNat_add, toNat_add1, List.length_append, List.length_cons, List.length_nil, List.length_replicate]; omega))) rfl rfl ?_ -- ref.go:21 index
      refine Runs_p rfl (Valid.call rfl (place_s _ _ (by omega)) ⟨argle rfl, argle rfl, trivial⟩) rfl rfl ?_ -- ref.go:21 call
      refine Runs_p rfl (Valid.movek (A := Is _) rfl rfl) rfl rfl ?_ -- ref.go:21 move
      refine Runs_p rfl (Valid.lss rfl rfl rfl) rfl rfl ?_ -- ref.go:21 binOp
      refine Runs_nil ?_
      refine thenQ_n ?_
      refine W_cond _ rfl (fun hb2 => ?_) (fun hb2 => ?_)
      · try simp only [decide_eq_true_eq] at hb2
        all_goals (
          refine W_seq ?_
          refine W_regionE (c := 14) (c' := 15) (by kernel_rfl) rfl ?_
          refine Runs_p rfl (Valid.assignk (A := Is _) rfl rfl) rfl rfl ?_ -- ref.go:22 assign
          refine Runs_nil ?_
          refine thenQ_n ?_
          refine W_ret ?_
          refine blockQ_r ?_
          refine thenQ_r ?_
          refine loopQ_r ?_
          refine blockQ_r ?_
          refine thenQ_r ?_
          refine finQ_r ?_
          refine ResOk.one rfl (RVal.is rfl rfl (by first | (rw [decide_eq_false (fun hR => (right_idx a k (by omega)).1 (hR k (by omega)) (by assumption))]) | (rw [decide_eq_true (p := RightP a) (fun i hi => hk2 i (by omega))])))
          done)
      · try simp only [decide_eq_false_iff_not] at hb2
        all_goals (
          refine W_skip ?_
          refine blockQ_n ?_
          refine thenQ_n ?_
          refine W_regionE (c := 14) (c' := 17) (by kernel_rfl) rfl ?_
          refine Runs_p rfl (Valid.movek (A := Is _) rfl rfl) rfl rfl ?_ -- ref.go:20 move
          refine Runs_p rfl (Valid.add rfl rfl rfl (room64 (by first | omega | (simp only [Int.toNat_natCast, toNat_add, toNat_add1, List.length_append, List.length_cons, List.length_nil, List.length_replicate]; omega)) (by first | omega | (simp only [Int.toNat_natCast, toNat_add, toNat_add1, List.length_append, List.length_cons, List.length_nil, List.length_replicate]; omega)))) rfl rfl ?_ -- ref.go:20 binOp
          refine Runs_p rfl (Valid.assignk (A := Is _) rfl rfl) rfl rfl ?_ -- ref.go:20 assign
          refine Runs_nil ?_
          refine LoopQ.next (k + 1) [] (⟨by omega, fun i hi => (by
                by_cases e : i = k
                · subst e; exact (right_idx a i (by omega)).2 (by assumption)
                · exact hk2 i (by omega))⟩) (by first | omega | (dsimp only; omega)) ⟨⟨(leq_is rfl rfl (by first | rfl | (simp; done) | omega | (simp [toNat_add, toNat_add1, Nat.add_assoc]; done) | (simp [toNat_add, toNat_add1]; omega))), trivial⟩, ⟨(leq_is rfl rfl rfl), trivial⟩, trivial, trivial, rfl, ⟨supg rfl, trivial⟩, ⟨supg rfl, trivial⟩, trivial, trivial, rfl, rfl⟩
          done)
      done)
  · try simp only [decide_eq_false_iff_not] at hb1
    all_goals (
      refine W_exit ?_
      refine thenQ_e ?_
      refine loopQ_e ?_
      refine blockQ_x ?_
      refine thenQ_n ?_
      refine W_seq ?_
      refine W_regionE (c := 7) (c' := 8) (by kernel_rfl) rfl ?_
      refine Runs_p rfl (Valid.assignk (A := Is _) rfl rfl) rfl rfl ?_ -- ref.go:25 assign
      refine Runs_nil ?_
      refine thenQ_n ?_
      refine W_ret ?_
      refine finQ_r ?_
      refine ResOk.one rfl (RVal.is rfl rfl (by first | (rw [decide_eq_false (fun hR => (right_idx a k (by omega)).1 (hR k (by omega)) (by assumption))]) | (rw [decide_eq_true (p := RightP a) (fun i hi => hk2 i (by omega))])))
      done)

def mtfS (a : ByteArray) (i : Int) : ByteArray := ⟨(mtf a.data.toList i.toNat).toArray⟩
theorem mtfS_cut (a : ByteArray) (i : Int) (h0 : 0 ≤ i) (h : i < a.size) : a.extract i.toNat (i + 1).toNat ++ a.extract 0 i.toNat ++ a.extract (i + 1).toNat a.size = mtfS a i := by
  have hl : a.data.toList.length = a.size := rfl
  have e : (a.extract i.toNat (i + 1).toNat ++ a.extract 0 i.toNat ++ a.extract (i + 1).toNat a.size).data.toList = mtf a.data.toList i.toNat := by
    simp only [ByteArray.data_append, ByteArray.data_extract, Array.toList_append, Array.toList_extract, List.extract_eq_take_drop]
    rw [show (i + 1).toNat = i.toNat + 1 by omega, show i.toNat + 1 - i.toNat = 1 by omega, List.drop_eq_getElem_cons (show i.toNat < a.data.toList.length by omega)]
    rw [mtf, getD_lt _ _ 0 (show i.toNat < a.data.toList.length by omega)]
    simp only [List.take_succ_cons, List.take_zero, List.drop_zero, Nat.sub_zero, List.cons_append, List.nil_append]
    rw [List.take_of_length_le (l := List.drop (i.toNat + 1) a.data.toList) (by rw [List.length_drop]; omega)]
  cases hx : (a.extract i.toNat (i + 1).toNat ++ a.extract 0 i.toNat ++ a.extract (i + 1).toNat a.size) with
  | mk d => rw [hx] at e; rw [mtfS, ← e]
theorem mtfS_list (a : ByteArray) (i : Int) : (mtfS a i).data.toList = mtf a.data.toList i.toNat := rfl

set_option maxRecDepth 100000 in
set_option maxHeartbeats 1000000 in
theorem rfr_s (a : ByteArray) (i : Int) (ha : a.size ≤ 1000000000) (h0 : 0 ≤ i) (h : i < a.size) :
    FPure Try.prog 45 [Is (.string a), Is (.int .i64 i)] (Is (.string (mtfS a i))) := by
  refine FPure.of Try.func45 Try.ntmps45 rfl (by kernel_rfl) rfl rfl rfl ?_
  refine W_seq ?_
  refine W_regionE (c := 1) (c' := 2) (by kernel_rfl) rfl ?_
  refine Runs_p rfl (Valid.assignk (A := Is _) rfl rfl) rfl rfl ?_ -- ref.go:29 assign
  refine Runs_nil ?_
  refine thenQ_n ?_
  refine W_seq ?_
  refine W_drawE (c := 2) (c' := 17) (by kernel_rfl) rfl ?_
  refine Runs_p rfl (Valid.movek (A := Is _) rfl rfl) rfl rfl ?_ -- ref.go:30 move
  refine Runs_p rfl (Valid.movek (A := Is _) rfl rfl) rfl rfl ?_ -- ref.go:30 move
  refine Runs_p rfl (Valid.movek (A := Is _) rfl rfl) rfl rfl ?_ -- ref.go:30 move
  refine Runs_p rfl (Valid.add rfl rfl rfl (room64 (by first | omega | (simp only [Int.toNat_natCast, toNat_add, toNat_add1, List.length_append, List.length_cons, List.length_nil, List.length_replicate]; omega)) (by first | omega | (simp only [Int.toNat_natCast, toNat_add, toNat_add1, List.length_append, List.length_cons, List.length_nil, List.length_replicate]; omega)))) rfl rfl ?_ -- ref.go:30 binOp
  refine Runs_p rfl (Valid.sslice rfl Try.underlying9 rfl rfl rfl (by first | omega | (simp only [Int.toNat_natCast, toNat_add, toNat_add1, List.length_append, List.length_cons, List.length_nil, List.length_replicate]; omega))) rfl rfl ?_ -- ref.go:30 slice
  refine Runs_p rfl (Valid.movek (A := Is _) rfl rfl) rfl rfl ?_ -- ref.go:30 move
  refine Runs_p rfl (Valid.movek (A := Is _) rfl rfl) rfl rfl ?_ -- ref.go:30 move
  refine Runs_p rfl (Valid.ssliceto rfl Try.underlying9 rfl rfl (by first | omega | (simp only [Int.toNat_natCast, toNat_add, toNat_add1, List.length_append, List.length_cons, List.length_nil, List.length_replicate]; omega))) rfl rfl ?_ -- ref.go:30 slice
  refine Runs_p rfl (Valid.cat rfl rfl rfl (by first | omega | (simp only [ByteArray.size_extract]; omega) | (simp only [maxLen]; omega))) rfl rfl ?_ -- ref.go:30 binOp
  refine Runs_p rfl (Valid.movek (A := Is _) rfl rfl) rfl rfl ?_ -- ref.go:30 move
  refine Runs_p rfl (Valid.movek (A := Is _) rfl rfl) rfl rfl ?_ -- ref.go:30 move
  refine Runs_p rfl (Valid.add rfl rfl rfl (room64 (by first | omega | (simp only [Int.toNat_natCast, toNat_add, toNat_add1, List.length_append, List.length_cons, List.length_nil, List.length_replicate]; omega)) (by first | omega | (simp only [Int.toNat_natCast, toNat_add, toNat_add1, List.length_append, List.length_cons, List.length_nil, List.length_replicate]; omega)))) rfl rfl ?_ -- ref.go:30 binOp
  refine Runs_p rfl (Valid.sslicefrom rfl Try.underlying9 rfl rfl (by first | omega | (simp only [Int.toNat_natCast, toNat_add, toNat_add1, List.length_append, List.length_cons, List.length_nil, List.length_replicate]; omega))) rfl rfl ?_ -- ref.go:30 slice
  refine Runs_p rfl (Valid.cat rfl rfl rfl (by first | omega | (simp only [ByteArray.size_append, ByteArray.size_extract]; omega) | (simp only [maxLen]; omega))) rfl rfl ?_ -- ref.go:30 binOp
  refine Runs_p rfl (Valid.assignk (A := Is _) rfl rfl) rfl rfl ?_ -- ref.go:30 assign
  refine Runs_nil ?_
  refine ⟨_, _, rfl, rfl, by kernel_rfl, ?_⟩
  refine thenQ_n ?_
  refine W_ret ?_
  refine finQ_r ?_
  refine ResOk.one rfl (RVal.is rfl rfl (by rw [← mtfS_cut a i h0 h]))

/-- the alphabet as a string, behind so many bytes -/
def frS (a s : ByteArray) (k : Nat) : ByteArray := ⟨(frL a.data.toList s k).toArray⟩
theorem frS_0 (a s : ByteArray) : frS a s 0 = a := by unfold frS; rw [frL_0]
theorem frS_list (a s : ByteArray) (k : Nat) : (frS a s k).data.toList = frL a.data.toList s k := rfl
theorem frS_size (a s : ByteArray) (k : Nat) (h : ∀ j, j < k → 0 ≤ idx (frL a.data.toList s j) (bat s (j : Int))) : (frS a s k).size = a.size := frL_len a.data.toList s k h
theorem frS_1 (a s : ByteArray) (k : Nat) : mtfS (frS a s k) (idx (frL a.data.toList s k) (bat s (k : Int))) = frS a s (k + 1) := by
  unfold mtfS frS; rw [frL]
theorem plL_1n (l : List UInt8) (s : ByteArray) (k : Nat) : (plL l s k).map I64 ++ [I64 (idx (frL l s k) (bat s (k : Int)))] = (plL l s (k + 1)).map I64 := plL_1m l s k
def toldV (a s : ByteArray) : List Int × ByteArray × Int := ((frontV a s).1, (afterV a s).1, (frontV a s).2)
theorem told_1 {a s : ByteArray} (h : ¬ RightP a) : frontV a s = ([], 1) ∧ afterV a s = (ByteArray.empty, 1) := by
  rw [frontV, if_pos h, afterV, if_pos h]; exact ⟨rfl, rfl⟩
theorem told_5 {a s : ByteArray} (h : RightP a) (k : Nat) (hk : k < s.size) (hb : idx (frL a.data.toList s k) (bat s (k : Int)) < 0) : frontV a s = ([], 5) ∧ afterV a s = (ByteArray.empty, 5) := by
  have hno : ¬ okF a.data.toList s := fun hok => by have := hok k hk; omega
  rw [frontV, if_neg (by simpa using h), if_neg hno, afterV, if_neg (by simpa using h), if_neg hno]; exact ⟨rfl, rfl⟩
theorem told_0 {a s : ByteArray} (h : RightP a) (hok : okF a.data.toList s) : frontV a s = (plL a.data.toList s s.size, 0) ∧ afterV a s = (frS a s s.size, 0) := ⟨frontV_ok h hok, afterV_ok h hok⟩
theorem err_eq (a s : ByteArray) : (afterV a s).2 = (frontV a s).2 := by
  unfold afterV frontV
  split
  · rfl
  · split <;> rfl

set_option maxRecDepth 100000 in
set_option maxHeartbeats 1000000 in
theorem told_s (a s : ByteArray) (ha : a.size ≤ 1000000000) (hs : s.size ≤ 1000000000)  :
    FPure Try.prog 41 [Is (.string a), Is (.string s)] (Tup [Sl 1 ((frontV a s).1).length (((frontV a s).1).map (Value.int .i64)), Is (.string (afterV a s).1), Is (.int .i64 (frontV a s).2)]) := by
  refine FPure.of Try.func41 Try.ntmps41 rfl (by kernel_rfl) rfl rfl rfl ?_
  refine W_seq ?_
  refine W_regionE (c := 1) (c' := 4) (by kernel_rfl) rfl ?_
  refine Runs_p rfl (Valid.assignk (A := Is (.slice none 0 0)) rfl rfl) rfl rfl ?_ -- ref.go:34 assign
  refine Runs_p rfl (Valid.assignk (A := Is _) rfl rfl) rfl rfl ?_ -- ref.go:34 assign
  refine Runs_p rfl (Valid.assignk (A := Is _) rfl rfl) rfl rfl ?_ -- ref.go:34 assign
  refine Runs_nil ?_
  refine thenQ_n ?_
  refine W_seq ?_
  refine W_regionE (c := 4) (c' := 7) (by kernel_rfl) rfl ?_
  refine Runs_p rfl (Valid.movek (A := Is _) rfl rfl) rfl rfl ?_ -- ref.go:35 move
  refine Runs_p rfl (Valid.call rfl (rright_s _ (by omega)) ⟨argle rfl, trivial⟩) rfl rfl ?_ -- ref.go:35 call
  refine Runs_p rfl (Valid.assignk (A := Is _) rfl rfl) rfl rfl ?_ -- ref.go:35 assign
  refine Runs_nil ?_
  refine thenQ_n ?_
  refine W_seq ?_
  refine W_seq ?_
  refine W_regionE (c := 7) (c' := 9) (by kernel_rfl) rfl ?_
  refine Runs_p rfl (Valid.movek (A := Is _) rfl rfl) rfl rfl ?_ -- ref.go:36 move
  refine Runs_p rfl (Valid.not rfl rfl) rfl rfl ?_ -- ref.go:36 unOp
  refine Runs_nil ?_
  refine thenQ_n ?_
  refine W_cond _ rfl (fun hb1 => ?_) (fun hb1 => ?_)
  · try simp only [decide_eq_false_iff_not, Bool.not_eq_true'] at hb1
    all_goals (
      refine W_seq ?_
      refine W_regionE (c := 9) (c' := 12) (by kernel_rfl) rfl ?_
      refine Runs_p rfl (Valid.assignk (A := Is (.slice none 0 0)) rfl rfl) rfl rfl ?_ -- ref.go:37 assign
      refine Runs_p rfl (Valid.assignk (A := Is _) rfl rfl) rfl rfl ?_ -- ref.go:37 assign
      refine Runs_p rfl (Valid.assignk (A := Is _) rfl rfl) rfl rfl ?_ -- ref.go:37 assign
      refine Runs_nil ?_
      refine thenQ_n ?_
      refine W_ret ?_
      refine thenQ_r ?_
      refine finQ_r ?_
      refine ResOk.three rfl (RVal.sl (Reads.nil rfl) rfl (by first | (rw [(told_0 (by simpa using hb1) (fun j hj => hk2 j (by omega))).1]; done) | (rw [(told_1 (s := s) (by assumption)).1]; rfl) | (rw [(told_5 (by simpa using hb1) k (by omega) (by rw [← frS_list]; omega)).1]; rfl) | (rw [(told_0 (by simpa using hb1) (fun j hj => hk2 j (by omega))).1]; show k = (plL _ _ _).length; rw [plL_len]; omega)) (by first | (rw [(told_1 (s := s) (by assumption)).1]; done) | (rw [(told_5 (by simpa using hb1) k (by omega) (by rw [← frS_list]; omega)).1]; done) | (rw [(told_0 (by simpa using hb1) (fun j hj => hk2 j (by omega))).1, show s.size = k by omega]; done) | (rw [(told_1 (s := s) (by assumption)).1]; rfl) | (rw [(told_5 (by simpa using hb1) k (by omega) (by rw [← frS_list]; omega)).1]; rfl) | (rw [(told_0 (by simpa using hb1) (fun j hj => hk2 j (by omega))).1, show s.size = k by omega]; rfl))) (RVal.is rfl rfl (by first | (rw [(told_1 (s := s) (by assumption)).2]; done) | (rw [(told_5 (by simpa using hb1) k (by omega) (by rw [← frS_list]; omega)).2]; done) | (rw [(told_0 (by simpa using hb1) (fun j hj => hk2 j (by omega))).2, show s.size = k by omega]; done) | (rw [(told_1 (s := s) (by assumption)).2]; rfl) | (rw [(told_5 (by simpa using hb1) k (by omega) (by rw [← frS_list]; omega)).2]; rfl) | (rw [(told_0 (by simpa using hb1) (fun j hj => hk2 j (by omega))).2, show s.size = k by omega]; rfl))) (RVal.is rfl rfl (by first | (rw [(told_1 (s := s) (by assumption)).1]; done) | (rw [(told_5 (by simpa using hb1) k (by omega) (by rw [← frS_list]; omega)).1]; done) | (rw [(told_0 (by simpa using hb1) (fun j hj => hk2 j (by omega))).1, show s.size = k by omega]; done) | (rw [(told_1 (s := s) (by assumption)).1]; rfl) | (rw [(told_5 (by simpa using hb1) k (by omega) (by rw [← frS_list]; omega)).1]; rfl) | (rw [(told_0 (by simpa using hb1) (fun j hj => hk2 j (by omega))).1, show s.size = k by omega]; rfl)))
      done)
  · try simp only [decide_eq_true_eq, Bool.not_eq_false'] at hb1
    all_goals (
      refine W_skip ?_
      refine thenQ_n ?_
      refine W_seq ?_
      refine W_regionE (c := 9) (c' := 11) (by kernel_rfl) rfl ?_
      refine Runs_p rfl (Valid.movek (A := Is _) rfl rfl) rfl rfl ?_ -- ref.go:39 move
      refine Runs_p rfl (Valid.assignk (A := Is _) rfl rfl) rfl rfl ?_ -- ref.go:39 assign
      refine Runs_nil ?_
      refine thenQ_n ?_
      refine W_seq ?_
      refine W_regionE (c := 11) (c' := 12) (by kernel_rfl) rfl ?_
      refine Runs_p rfl (Valid.assignk (A := Is (.slice none 0 0)) rfl rfl) rfl rfl ?_ -- ref.go:40 assign
      refine Runs_nil ?_
      refine thenQ_n ?_
      refine W_seq ?_
      refine W_seq ?_
      refine W_regionE (c := 12) (c' := 13) (by kernel_rfl) rfl ?_
      refine Runs_p rfl (Valid.assignk (A := Is _) rfl rfl) rfl rfl ?_ -- ref.go:41 assign
      refine Runs_nil ?_
      refine thenQ_n ?_
      refine W_block ?_
      refine W.ent ?_ (Ent.ownnil 9 3 1 rfl)
      refine W_loopx (G := Nat) (fun (k : Nat) => k ≤ s.size ∧ ∀ j, j < k → 0 ≤ idx (frL a.data.toList s j) (bat s (j : Int))) [(1, Is _)] (fun (k : Nat) => [(10, Is (.int .i64 (k : Int))), (8, Is (.string (frS a s k))), (9, Own 104 1 k ((plL a.data.toList s k).map I64))]) [] (fun (k : Nat) => [(104, .row 3 1 k ((plL a.data.toList s k).map I64))]) 14 (fun (k : Nat) => s.size - k) (0) [] (⟨by omega, fun j hj => by omega⟩) ⟨⟨(leq_is rfl rfl (by first | rfl | (rw [plL_0]; rfl) | (rw [frS_0]))), (leq_is rfl rfl (by first | rfl | (rw [plL_0]; rfl) | (rw [frS_0]))), (leq_own rfl rfl rfl (by first | rfl | (rw [plL_0]; rfl) | (rw [frS_0])) (by first | rfl | (rw [plL_0]; rfl) | (rw [frS_0]))), trivial⟩, ⟨(leq_is rfl rfl rfl), trivial⟩, ⟨hp_row rfl (by first | rfl | (rw [plL_0]; rfl) | (rw [frS_0])) (by first | rfl | (rw [plL_0]; rfl) | (rw [frS_0])), trivial⟩, trivial, rfl, ⟨supg rfl, supg rfl, supg rfl, trivial⟩, ⟨supg rfl, trivial⟩, ⟨suph rfl rfl, trivial⟩, trivial, rfl, rfl⟩ ?_
      intro k hI1
      obtain ⟨hk1, hk2⟩ := hI1
      have hfs := frS_size a s k hk2
      have hil := idx_lt (frL a.data.toList s k) (bat s (k : Int))
      have hfl := frL_len a.data.toList s k hk2
      have hal : a.data.toList.length = a.size := rfl
      have hfz : (frS a s k).data.toList.length = (frS a s k).size := rfl
      rw [← frS_list] at hil
      refine W_seq ?_
      refine W_seq ?_
      refine W_regionE (c := 14) (c' := 18) (by kernel_rfl) rfl ?_
      refine Runs_p rfl (Valid.movek (A := Is _) rfl rfl) rfl rfl ?_ -- ref.go:41 move
      refine Runs_p rfl (Valid.movek (A := Is _) rfl rfl) rfl rfl ?_ -- ref.go:41 move
      refine Runs_p rfl (Valid.slen rfl Try.underlying9 rfl) rfl rfl ?_ -- ref.go:41 call
      refine Runs_p rfl (Valid.lss rfl rfl rfl) rfl rfl ?_ -- ref.go:41 binOp
      refine Runs_nil ?_
      refine thenQ_n ?_
      refine W_cond _ rfl (fun hb2 => ?_) (fun hb2 => ?_)
      · try simp only [decide_eq_true_eq] at hb2
        all_goals (
          refine W_skip ?_
          refine thenQ_n ?_
          refine W_seq ?_
          refine W_block ?_
          refine W_seq ?_
          refine W_regionE (c := 18) (c' := 24) (by kernel_rfl) rfl ?_
          refine Runs_p rfl (Valid.movek (A := Is _) rfl rfl) rfl rfl ?_ -- ref.go:42 move
          refine Runs_p rfl (Valid.movek (A := Is _) rfl rfl) rfl rfl ?_ -- ref.go:42 move
          refine Runs_p rfl (Valid.movek (A := Is _) rfl rfl) rfl rfl ?_ -- ref.go:42 move
          refine Runs_p rfl (Valid.sindex rfl Try.underlying9 rfl rfl (by first | omega | (simp only [Int.toNat_natCast, toNat_add, toNat_add1, List.length_append, List.length_cons, List.length_nil, List.length_replicate]; omega))) rfl rfl ?_ -- ref.go:42 index
          refine Runs_p rfl (Valid.call rfl (place_s _ _ (by omega)) ⟨argle rfl, argle rfl, trivial⟩) rfl rfl ?_ -- ref.go:42 call
          refine Runs_p rfl (Valid.assignk (A := Is _) rfl rfl) rfl rfl ?_ -- ref.go:42 assign
          refine Runs_nil ?_
          refine thenQ_n ?_
          refine W_seq ?_
          refine W_seq ?_
          refine W_regionE (c := 24) (c' := 26) (by kernel_rfl) rfl ?_
          refine Runs_p rfl (Valid.movek (A := Is _) rfl rfl) rfl rfl ?_ -- ref.go:43 move
          refine Runs_p rfl (Valid.lss rfl rfl rfl) rfl rfl ?_ -- ref.go:43 binOp
          refine Runs_nil ?_
          refine thenQ_n ?_
          refine W_cond _ rfl (fun hb3 => ?_) (fun hb3 => ?_)
          · try simp only [decide_eq_true_eq] at hb3
            all_goals (
              refine W_seq ?_
              refine W_regionE (c := 26) (c' := 29) (by kernel_rfl) rfl ?_
              refine Runs_p rfl (Valid.assignk (A := Is (.slice none 0 0)) rfl rfl) rfl rfl ?_ -- ref.go:44 assign
              refine Runs_p rfl (Valid.assignk (A := Is _) rfl rfl) rfl rfl ?_ -- ref.go:44 assign
              refine Runs_p rfl (Valid.assignk (A := Is _) rfl rfl) rfl rfl ?_ -- ref.go:44 assign
              refine Runs_nil ?_
              refine thenQ_n ?_
              refine W_ret ?_
              refine thenQ_r ?_
              refine blockQ_r ?_
              refine thenQ_r ?_
              refine loopQ_r ?_
              refine blockQ_r ?_
              refine thenQ_r ?_
              refine finQ_r ?_
              refine ResOk.three rfl (RVal.sl (Reads.nil rfl) rfl (by first | (rw [(told_0 (by simpa using hb1) (fun j hj => hk2 j (by omega))).1]; done) | (rw [(told_1 (s := s) (by assumption)).1]; rfl) | (rw [(told_5 (by simpa using hb1) k (by omega) (by rw [← frS_list]; omega)).1]; rfl) | (rw [(told_0 (by simpa using hb1) (fun j hj => hk2 j (by omega))).1]; show k = (plL _ _ _).length; rw [plL_len]; omega)) (by first | (rw [(told_1 (s := s) (by assumption)).1]; done) | (rw [(told_5 (by simpa using hb1) k (by omega) (by rw [← frS_list]; omega)).1]; done) | (rw [(told_0 (by simpa using hb1) (fun j hj => hk2 j (by omega))).1, show s.size = k by omega]; done) | (rw [(told_1 (s := s) (by assumption)).1]; rfl) | (rw [(told_5 (by simpa using hb1) k (by omega) (by rw [← frS_list]; omega)).1]; rfl) | (rw [(told_0 (by simpa using hb1) (fun j hj => hk2 j (by omega))).1, show s.size = k by omega]; rfl))) (RVal.is rfl rfl (by first | (rw [(told_1 (s := s) (by assumption)).2]; done) | (rw [(told_5 (by simpa using hb1) k (by omega) (by rw [← frS_list]; omega)).2]; done) | (rw [(told_0 (by simpa using hb1) (fun j hj => hk2 j (by omega))).2, show s.size = k by omega]; done) | (rw [(told_1 (s := s) (by assumption)).2]; rfl) | (rw [(told_5 (by simpa using hb1) k (by omega) (by rw [← frS_list]; omega)).2]; rfl) | (rw [(told_0 (by simpa using hb1) (fun j hj => hk2 j (by omega))).2, show s.size = k by omega]; rfl))) (RVal.is rfl rfl (by first | (rw [(told_1 (s := s) (by assumption)).1]; done) | (rw [(told_5 (by simpa using hb1) k (by omega) (by rw [← frS_list]; omega)).1]; done) | (rw [(told_0 (by simpa using hb1) (fun j hj => hk2 j (by omega))).1, show s.size = k by omega]; done) | (rw [(told_1 (s := s) (by assumption)).1]; rfl) | (rw [(told_5 (by simpa using hb1) k (by omega) (by rw [← frS_list]; omega)).1]; rfl) | (rw [(told_0 (by simpa using hb1) (fun j hj => hk2 j (by omega))).1, show s.size = k by omega]; rfl)))
              done)
          · try simp only [decide_eq_false_iff_not] at hb3
            all_goals (
              refine W_skip ?_
              refine thenQ_n ?_
              refine W_seq ?_
              refine W_regionE (c := 26) (c' := 31) (by kernel_rfl) rfl ?_
              refine Runs_p rfl (Valid.movek (A := Own 104 1 _ _) rfl rfl) rfl rfl ?_ -- ref.go:46 move
              refine Runs_p rfl (Valid.movek (A := Is _) rfl rfl) rfl rfl ?_ -- ref.go:46 move
              refine Runs_p rfl (Valid.lit (el := 3) [_] rfl rfl (fun _ => by kernel_rfl) rfl (by decide)) rfl rfl ?_ -- ref.go:46 buildSlice
              refine Runs_w rfl (Valid.app rfl Try.underlying22 ti3 (by decide) rfl rfl (Reads.sl rfl) (by first | exact one_map (fun _ => rfl) | exact one_cons rfl one_nil | exact one_app (one_map (fun _ => rfl)) (one_cons rfl one_nil) | exact one_app (one_map (fun _ => rfl)) (one_map (fun _ => rfl)) | exact one_rep rfl | exact one_app (one_rep rfl) (one_map (fun _ => rfl)) | (intro u hu; simp at hu; rcases hu with rfl | hu <;> first | rfl | (subst hu; rfl))) (by first | (simp only [maxLen]; omega) | (simp only [maxLen, Int.toNat_natCast, toNat_add, toNat_add1, List.length_append, List.length_cons, List.length_nil, List.length_replicate]; omega)) (by first | omega | (simp only [Int.toNat_natCast, toNat_add, toNat_add1, List.length_append, List.length_cons, List.length_nil, List.length_replicate]; omega))) rfl rfl ?_ -- ref.go:46 call
              refine Runs_p rfl (Valid.assignk (A := Own 232 1 _ _) rfl rfl) rfl rfl ?_ -- ref.go:46 assign
              refine Runs_nil ?_
              refine thenQ_n ?_
              refine W_regionE (c := 31) (c' := 35) (by kernel_rfl) rfl ?_
              refine Runs_p rfl (Valid.movek (A := Is _) rfl rfl) rfl rfl ?_ -- ref.go:47 move
              refine Runs_p rfl (Valid.movek (A := Is _) rfl rfl) rfl rfl ?_ -- ref.go:47 move
              refine Runs_p rfl (Valid.call rfl (rfr_s _ _ (by omega) (by omega) (by omega)) ⟨argle rfl, argle rfl, trivial⟩) rfl rfl ?_ -- ref.go:47 call
              refine Runs_p rfl (Valid.assignk (A := Is _) rfl rfl) rfl rfl ?_ -- ref.go:47 assign
              refine Runs_nil ?_
              refine blockQ_n ?_
              refine thenQ_n ?_
              refine W_regionE (c := 35) (c' := 38) (by kernel_rfl) rfl ?_
              refine Runs_p rfl (Valid.movek (A := Is _) rfl rfl) rfl rfl ?_ -- ref.go:41 move
              refine Runs_p rfl (Valid.add rfl rfl rfl (room64 (by first | omega | (simp only [Int.toNat_natCast, toNat_add, toNat_add1, List.length_append, List.length_cons, List.length_nil, List.length_replicate]; omega)) (by first | omega | (simp only [Int.toNat_natCast, toNat_add, toNat_add1, List.length_append, List.length_cons, List.length_nil, List.length_replicate]; omega)))) rfl rfl ?_ -- ref.go:41 binOp
              refine Runs_p rfl (Valid.assignk (A := Is _) rfl rfl) rfl rfl ?_ -- ref.go:41 assign
              refine Runs_nil ?_
              refine LoopQ.next (k + 1) [(104, 232)] (⟨by omega, fun j hj => (by
                    by_cases e : j = k
                    · subst e; rw [← frS_list]; omega
                    · exact hk2 j (by omega))⟩) (by first | omega | (dsimp only; omega)) ⟨⟨(leq_is rfl rfl (by first | rfl | exact plL_1n _ _ _ | exact congrArg Value.string (frS_1 _ _ _))), (leq_is rfl rfl (by first | rfl | exact plL_1n _ _ _ | exact congrArg Value.string (frS_1 _ _ _))), (leq_own rfl rfl rfl (by first | rfl | exact plL_1n _ _ _ | exact congrArg Value.string (frS_1 _ _ _)) (by first | rfl | exact plL_1n _ _ _ | exact congrArg Value.string (frS_1 _ _ _))), trivial⟩, ⟨(leq_is rfl rfl rfl), trivial⟩, ⟨hp_row rfl (by first | rfl | exact plL_1n _ _ _ | exact congrArg Value.string (frS_1 _ _ _)) (by first | rfl | exact plL_1n _ _ _ | exact congrArg Value.string (frS_1 _ _ _)), trivial⟩, trivial, rfl, ⟨supg rfl, supg rfl, supg rfl, trivial⟩, ⟨supg rfl, trivial⟩, ⟨suph rfl rfl, trivial⟩, trivial, rfl, rfl⟩
              done)
          done)
      · try simp only [decide_eq_false_iff_not] at hb2
        all_goals (
          refine W_exit ?_
          refine thenQ_e ?_
          refine loopQ_e ?_
          refine blockQ_x ?_
          refine thenQ_n ?_
          refine W_seq ?_
          refine W_regionE (c := 18) (c' := 23) (by kernel_rfl) rfl ?_
          refine Runs_p rfl (Valid.movek (A := Own 104 1 _ _) rfl rfl) rfl rfl ?_ -- ref.go:49 move
          refine Runs_p rfl (Valid.movek (A := Is _) rfl rfl) rfl rfl ?_ -- ref.go:49 move
          refine Runs_p rfl (Valid.assignk (A := Own 104 1 _ _) rfl rfl) rfl rfl ?_ -- ref.go:49 assign
          refine Runs_p rfl (Valid.assignk (A := Is _) rfl rfl) rfl rfl ?_ -- ref.go:49 assign
          refine Runs_p rfl (Valid.assignk (A := Is _) rfl rfl) rfl rfl ?_ -- ref.go:49 assign
          refine Runs_nil ?_
          refine thenQ_n ?_
          refine W_ret ?_
          refine finQ_r ?_
          refine ResOk.three rfl (RVal.sl (Reads.own rfl) rfl (by first | (rw [(told_0 (by simpa using hb1) (fun j hj => hk2 j (by omega))).1]; done) | (rw [(told_1 (s := s) (by assumption)).1]; rfl) | (rw [(told_5 (by simpa using hb1) k (by omega) (by rw [← frS_list]; omega)).1]; rfl) | (rw [(told_0 (by simpa using hb1) (fun j hj => hk2 j (by omega))).1]; show k = (plL _ _ _).length; rw [plL_len]; omega)) (by first | (rw [(told_1 (s := s) (by assumption)).1]; done) | (rw [(told_5 (by simpa using hb1) k (by omega) (by rw [← frS_list]; omega)).1]; done) | (rw [(told_0 (by simpa using hb1) (fun j hj => hk2 j (by omega))).1, show s.size = k by omega]; done) | (rw [(told_1 (s := s) (by assumption)).1]; rfl) | (rw [(told_5 (by simpa using hb1) k (by omega) (by rw [← frS_list]; omega)).1]; rfl) | (rw [(told_0 (by simpa using hb1) (fun j hj => hk2 j (by omega))).1, show s.size = k by omega]; rfl))) (RVal.is rfl rfl (by first | (rw [(told_1 (s := s) (by assumption)).2]; done) | (rw [(told_5 (by simpa using hb1) k (by omega) (by rw [← frS_list]; omega)).2]; done) | (rw [(told_0 (by simpa using hb1) (fun j hj => hk2 j (by omega))).2, show s.size = k by omega]; done) | (rw [(told_1 (s := s) (by assumption)).2]; rfl) | (rw [(told_5 (by simpa using hb1) k (by omega) (by rw [← frS_list]; omega)).2]; rfl) | (rw [(told_0 (by simpa using hb1) (fun j hj => hk2 j (by omega))).2, show s.size = k by omega]; rfl))) (RVal.is rfl rfl (by first | (rw [(told_1 (s := s) (by assumption)).1]; done) | (rw [(told_5 (by simpa using hb1) k (by omega) (by rw [← frS_list]; omega)).1]; done) | (rw [(told_0 (by simpa using hb1) (fun j hj => hk2 j (by omega))).1, show s.size = k by omega]; done) | (rw [(told_1 (s := s) (by assumption)).1]; rfl) | (rw [(told_5 (by simpa using hb1) k (by omega) (by rw [← frS_list]; omega)).1]; rfl) | (rw [(told_0 (by simpa using hb1) (fun j hj => hk2 j (by omega))).1, show s.size = k by omega]; rfl)))
          done)
      done)

set_option maxRecDepth 100000 in
set_option maxHeartbeats 1000000 in
theorem rfront_s (a s : ByteArray) (ha : a.size ≤ 1000000000) (hs : s.size ≤ 1000000000)  :
    FPure Try.prog 23 [Is (.string a), Is (.string s)] (Tup [Sl 1 ((frontV a s).1).length (((frontV a s).1).map (Value.int .i64)), Is (.int .i64 (frontV a s).2)]) := by
  refine FPure.of Try.func23 Try.ntmps23 rfl (by kernel_rfl) rfl rfl rfl ?_
  refine W_seq ?_
  refine W_regionE (c := 1) (c' := 3) (by kernel_rfl) rfl ?_
  refine Runs_p rfl (Valid.assignk (A := Is (.slice none 0 0)) rfl rfl) rfl rfl ?_ -- ref.go:53 assign
  refine Runs_p rfl (Valid.assignk (A := Is _) rfl rfl) rfl rfl ?_ -- ref.go:53 assign
  refine Runs_nil ?_
  refine thenQ_n ?_
  refine W_seq ?_
  refine W_regionE (c := 3) (c' := 13) (by kernel_rfl) rfl ?_
  refine Runs_p rfl (Valid.movek (A := Is _) rfl rfl) rfl rfl ?_ -- ref.go:54 move
  refine Runs_p rfl (Valid.movek (A := Is _) rfl rfl) rfl rfl ?_ -- ref.go:54 move
  refine Runs_p rfl (Valid.call rfl (told_s _ _ (by omega) (by omega)) ⟨argle rfl, argle rfl, trivial⟩) rfl rfl ?_ -- ref.go:54 call
  refine Runs_p rfl (Valid.movek (A := Tup [Sl 1 _ _, Is _, Is _]) rfl rfl) rfl rfl ?_ -- ref.go:54 move
  refine Runs_p rfl (Valid.extract _ rfl rfl rfl) rfl rfl ?_ -- ref.go:54 extract
  refine Runs_p rfl (Valid.extract _ rfl rfl rfl) rfl rfl ?_ -- ref.go:54 extract
  refine Runs_p rfl (Valid.extract _ rfl rfl rfl) rfl rfl ?_ -- ref.go:54 extract
  refine Runs_p rfl (Valid.assignk (A := Sl 1 _ _) rfl rfl) rfl rfl ?_ -- ref.go:54 assign
  refine Runs_p rfl (Valid.assignk (A := Is _) rfl rfl) rfl rfl ?_ -- ref.go:54 assign
  refine Runs_p rfl (Valid.assignk (A := Is _) rfl rfl) rfl rfl ?_ -- ref.go:54 assign
  refine Runs_nil ?_
  refine thenQ_n ?_
  refine W_seq ?_
  refine W_regionE (c := 13) (c' := 17) (by kernel_rfl) rfl ?_
  refine Runs_p rfl (Valid.movek (A := Sl 1 _ _) rfl rfl) rfl rfl ?_ -- ref.go:55 move
  refine Runs_p rfl (Valid.movek (A := Is _) rfl rfl) rfl rfl ?_ -- ref.go:55 move
  refine Runs_p rfl (Valid.assignk (A := Sl 1 _ _) rfl rfl) rfl rfl ?_ -- ref.go:55 assign
  refine Runs_p rfl (Valid.assignk (A := Is _) rfl rfl) rfl rfl ?_ -- ref.go:55 assign
  refine Runs_nil ?_
  refine thenQ_n ?_
  refine W_ret ?_
  refine finQ_r ?_
  refine ResOk.two rfl (RVal.sl (Reads.sl rfl) rfl (by rfl) (by rfl)) (RVal.is rfl rfl (by rfl))

def bkS (a : ByteArray) (p : List Int) (k : Nat) : ByteArray := ⟨(bkL a.data.toList p k).toArray⟩
def txS (a : ByteArray) (p : List Int) (k : Nat) : ByteArray := ⟨(txL a.data.toList p k).toArray⟩
theorem bkS_0 (a : ByteArray) (p : List Int) : bkS a p 0 = a := by unfold bkS; rw [bkL_0]
theorem txS_0 (a : ByteArray) (p : List Int) : txS a p 0 = ByteArray.empty := by unfold txS; rw [txL_0]; rfl
theorem bkS_size (a : ByteArray) (p : List Int) (k : Nat) (h : ∀ j, j < k → 0 ≤ p.getD j 0 ∧ p.getD j 0 < a.size) : (bkS a p k).size = a.size := bkL_len a.data.toList p k h
theorem txS_size (a : ByteArray) (p : List Int) (k : Nat) : (txS a p k).size = k := txL_len a.data.toList p k
theorem bkS_1 (a : ByteArray) (p : List Int) (k : Nat) : mtfS (bkS a p k) (p.getD (k : Int).toNat 0) = bkS a p (k + 1) := by
  unfold mtfS bkS; rw [bkL]; rfl
theorem ext_one (s : ByteArray) (i : Int) (h0 : 0 ≤ i) (h : i < s.size) : (s.extract i.toNat (i + 1).toNat).data.toList = [bat s i] := by
  have hlt : i.toNat < s.data.toList.length := by
    have : s.data.toList.length = s.size := rfl
    omega
  have hb : s.data.toList[i.toNat] = bat s i := (getD_lt _ _ 0 hlt).symm
  rw [show (i + 1).toNat = i.toNat + 1 by omega, ByteArray.data_extract, Array.toList_extract, List.extract_eq_take_drop, List.drop_eq_getElem_cons hlt, show i.toNat + 1 - i.toNat = 1 by omega]
  simp [hb]
theorem ba_ext {a b : ByteArray} (h : a.data.toList = b.data.toList) : a = b := by
  cases a; cases b
  rw [ByteArray.mk.injEq]
  exact Array.toList_inj.1 h
theorem txS_1 (a : ByteArray) (p : List Int) (k : Nat) (h0 : 0 ≤ p.getD k 0) (h : p.getD k 0 < (bkS a p k).size) : txS a p k ++ (bkS a p k).extract (p.getD (k : Int).toNat 0).toNat (p.getD (k : Int).toNat 0 + 1).toNat = txS a p (k + 1) := by
  apply ba_ext
  rw [ByteArray.data_append, Array.toList_append, show p.getD (k : Int).toNat 0 = p.getD k 0 from rfl, ext_one _ _ h0 h]
  show txL _ p k ++ _ = txL _ p (k + 1)
  rw [txL]; rfl
theorem backV_1 {a : ByteArray} {p : List Int} (h : ¬ RightP a) : backV a p = (ByteArray.empty, 1) := by rw [backV, if_pos h]
theorem backV_5 {a : ByteArray} {p : List Int} (h : RightP a) (k : Nat) (hk : k < p.length) (hb : p.getD k 0 < 0 ∨ (a.size : Int) ≤ p.getD k 0) : backV a p = (ByteArray.empty, 5) := by
  rw [backV, if_neg (by simpa using h), if_neg]
  intro hok
  have h1 := hok k hk
  have : a.data.toList.length = a.size := rfl
  omega
theorem backV_0 {a : ByteArray} {p : List Int} (h : RightP a) (hok : ∀ j, j < p.length → 0 ≤ p.getD j 0 ∧ p.getD j 0 < a.size) : backV a p = (txS a p p.length, 0) := by
  rw [backV, if_neg (by simpa using h), if_pos (show okB a.data.toList p from hok)]; rfl

set_option maxRecDepth 100000 in
set_option maxHeartbeats 1000000 in
theorem rback_s (a : ByteArray) (p : List Int) (ha : a.size ≤ 1000000000) (hp : p.length ≤ 1000000000) (hpi : In64 p) :
    FPure Try.prog 28 [Is (.string a), Sl 1 p.length (p.map (Value.int .i64))] (Tup [Is (.string (backV a p).1), Is (.int .i64 (backV a p).2)]) := by
  refine FPure.of Try.func28 Try.ntmps28 rfl (by kernel_rfl) rfl rfl rfl ?_
  refine W_seq ?_
  refine W_regionE (c := 1) (c' := 3) (by kernel_rfl) rfl ?_
  refine Runs_p rfl (Valid.assignk (A := Is _) rfl rfl) rfl rfl ?_ -- ref.go:65 assign
  refine Runs_p rfl (Valid.assignk (A := Is _) rfl rfl) rfl rfl ?_ -- ref.go:65 assign
  refine Runs_nil ?_
  refine thenQ_n ?_
  refine W_seq ?_
  refine W_regionE (c := 3) (c' := 6) (by kernel_rfl) rfl ?_
  refine Runs_p rfl (Valid.movek (A := Is _) rfl rfl) rfl rfl ?_ -- ref.go:66 move
  refine Runs_p rfl (Valid.call rfl (rright_s _ (by omega)) ⟨argle rfl, trivial⟩) rfl rfl ?_ -- ref.go:66 call
  refine Runs_p rfl (Valid.assignk (A := Is _) rfl rfl) rfl rfl ?_ -- ref.go:66 assign
  refine Runs_nil ?_
  refine thenQ_n ?_
  refine W_seq ?_
  refine W_seq ?_
  refine W_regionE (c := 6) (c' := 8) (by kernel_rfl) rfl ?_
  refine Runs_p rfl (Valid.movek (A := Is _) rfl rfl) rfl rfl ?_ -- ref.go:67 move
  refine Runs_p rfl (Valid.not rfl rfl) rfl rfl ?_ -- ref.go:67 unOp
  refine Runs_nil ?_
  refine thenQ_n ?_
  refine W_cond _ rfl (fun hb1 => ?_) (fun hb1 => ?_)
  · try simp only [decide_eq_false_iff_not, Bool.not_eq_true'] at hb1
    all_goals (
      refine W_seq ?_
      refine W_regionE (c := 8) (c' := 10) (by kernel_rfl) rfl ?_
      refine Runs_p rfl (Valid.assignk (A := Is _) rfl rfl) rfl rfl ?_ -- ref.go:68 assign
      refine Runs_p rfl (Valid.assignk (A := Is _) rfl rfl) rfl rfl ?_ -- ref.go:68 assign
      refine Runs_nil ?_
      refine thenQ_n ?_
      refine W_ret ?_
      refine thenQ_r ?_
      refine finQ_r ?_
      refine ResOk.two rfl (RVal.is rfl rfl (by first | (rw [backV_1 (by assumption)]; done) | (rw [backV_1 (by assumption)]; rfl) | (rw [backV_5 (by simpa using hb1) k (by omega) (by omega)]; done) | (rw [backV_5 (by simpa using hb1) k (by omega) (by omega)]; rfl) | (rw [backV_0 (by simpa using hb1) (fun j hj => hk2 j (by omega))]; done) | (rw [backV_0 (by simpa using hb1) (fun j hj => hk2 j (by omega)), show p.length = k by omega]; done))) (RVal.is rfl rfl (by first | (rw [backV_1 (by assumption)]; done) | (rw [backV_1 (by assumption)]; rfl) | (rw [backV_5 (by simpa using hb1) k (by omega) (by omega)]; done) | (rw [backV_5 (by simpa using hb1) k (by omega) (by omega)]; rfl) | (rw [backV_0 (by simpa using hb1) (fun j hj => hk2 j (by omega))]; done) | (rw [backV_0 (by simpa using hb1) (fun j hj => hk2 j (by omega)), show p.length = k by omega]; done)))
      done)
  · try simp only [decide_eq_true_eq, Bool.not_eq_false'] at hb1
    all_goals (
      refine W_skip ?_
      refine thenQ_n ?_
      refine W_seq ?_
      refine W_regionE (c := 8) (c' := 10) (by kernel_rfl) rfl ?_
      refine Runs_p rfl (Valid.movek (A := Is _) rfl rfl) rfl rfl ?_ -- ref.go:70 move
      refine Runs_p rfl (Valid.assignk (A := Is _) rfl rfl) rfl rfl ?_ -- ref.go:70 assign
      refine Runs_nil ?_
      refine thenQ_n ?_
      refine W_seq ?_
      refine W_regionE (c := 10) (c' := 11) (by kernel_rfl) rfl ?_
      refine Runs_p rfl (Valid.assignk (A := Is _) rfl rfl) rfl rfl ?_ -- ref.go:71 assign
      refine Runs_nil ?_
      refine thenQ_n ?_
      refine W_seq ?_
      refine W_seq ?_
      refine W_regionE (c := 11) (c' := 12) (by kernel_rfl) rfl ?_
      refine Runs_p rfl (Valid.assignk (A := Is _) rfl rfl) rfl rfl ?_ -- ref.go:72 assign
      refine Runs_nil ?_
      refine thenQ_n ?_
      refine W_block ?_
      refine W_loopx (G := Nat) (fun (k : Nat) => k ≤ p.length ∧ ∀ j, j < k → 0 ≤ p.getD j 0 ∧ p.getD j 0 < a.size) [(1, Sl 1 _ _)] (fun (k : Nat) => [(9, Is (.int .i64 (k : Int))), (7, Is (.string (bkS a p k))), (8, Is (.string (txS a p k)))]) [] (fun (k : Nat) => []) 12 (fun (k : Nat) => p.length - k) (0) [] (⟨by omega, fun j hj => by omega⟩) ⟨⟨(leq_is rfl rfl (by first | rfl | exact congrArg Value.string (bkS_0 _ _).symm | exact congrArg Value.string (txS_0 _ _).symm)), (leq_is rfl rfl (by first | rfl | exact congrArg Value.string (bkS_0 _ _).symm | exact congrArg Value.string (txS_0 _ _).symm)), (leq_is rfl rfl (by first | rfl | exact congrArg Value.string (bkS_0 _ _).symm | exact congrArg Value.string (txS_0 _ _).symm)), trivial⟩, ⟨(leq_sl (Reads.sl rfl) rfl rfl rfl), trivial⟩, trivial, trivial, rfl, ⟨supg rfl, supg rfl, supg rfl, trivial⟩, ⟨supg rfl, trivial⟩, trivial, trivial, rfl, rfl⟩ ?_
      intro k hI1
      obtain ⟨hk1, hk2⟩ := hI1
      have hbs := bkS_size a p k hk2
      have hts := txS_size a p k
      have hkk : p.getD (k : Int).toNat 0 = p.getD k 0 := rfl
      have hpk := hpi.at_ k
      refine W_seq ?_
      refine W_seq ?_
      refine W_regionE (c := 12) (c' := 16) (by kernel_rfl) rfl ?_
      refine Runs_p rfl (Valid.movek (A := Is _) rfl rfl) rfl rfl ?_ -- ref.go:72 move
      refine Runs_p rfl (Valid.movek (A := Sl 1 _ _) rfl rfl) rfl rfl ?_ -- ref.go:72 move
      refine Runs_p rfl (Valid.len rfl Try.underlying22 (Reads.sl rfl)) rfl rfl ?_ -- ref.go:72 call
      refine Runs_p rfl (Valid.lss rfl rfl rfl) rfl rfl ?_ -- ref.go:72 binOp
      refine Runs_nil ?_
      refine thenQ_n ?_
      refine W_cond _ rfl (fun hb2 => ?_) (fun hb2 => ?_)
      · try simp only [decide_eq_true_eq] at hb2
        all_goals (
          refine W_skip ?_
          refine thenQ_n ?_
          refine W_seq ?_
          refine W_block ?_
          refine W_seq ?_
          refine W_seq ?_
          refine W_regionE (c := 16) (c' := 30) (by kernel_rfl) rfl ?_
          refine Runs_p rfl (Valid.movek (A := Sl 1 _ _) rfl rfl) rfl rfl ?_ -- ref.go:73 move
          refine Runs_p rfl (Valid.movek (A := Is _) rfl rfl) rfl rfl ?_ -- ref.go:73 move
          refine Runs_p rfl (Valid.eltaddr1 0 rfl Try.underlying22 sz3 (Reads.sl rfl) rfl (by first | omega | (simp only [Int.toNat_natCast, toNat_add, toNat_add1, List.length_append, List.length_cons, List.length_nil, List.length_replicate]; omega)) (by first | rfl | simp)) rfl rfl ?_ -- ref.go:73 indexAddr
          refine Runs_p rfl (Valid.loadelt rfl ag3 rfl) rfl rfl ?_ -- ref.go:73 load
          refine Runs_p rfl (Valid.lss rfl rfl rfl) rfl rfl ?_ -- ref.go:73 binOp
          refine Runs_p rfl (Valid.movek (A := Is _) rfl rfl) rfl rfl ?_ -- ref.go:73 move
          refine Runs_cnd rfl rfl (Grd.is rfl) [] (fun hg => trivial) (fun hg => Valid.movek (A := Sl 1 _ _) rfl rfl) (by rfl) rfl ?_
          refine Runs_cnd rfl rfl (Grd.is rfl) [] (fun hg => trivial) (fun hg => Valid.movek (A := Is _) rfl rfl) (by rfl) rfl ?_
          refine Runs_cnd rfl rfl (Grd.is rfl) [(27, _), (28, _)] (fun hg => ⟨cnd_at rfl (by first | exact hg | exact hg.1 | exact hg.1.1 | exact hg.1.1.1), cnd_at rfl (by first | exact hg | exact hg.1 | exact hg.1.1 | exact hg.1.1.1), trivial⟩) (fun hg => Valid.eltaddr1 0 rfl Try.underlying22 sz3 (Reads.sl rfl) rfl (by (try simp only [Int.toNat_natCast, decide_eq_false_iff_not] at hg); first | omega | (simp only [Int.toNat_natCast, toNat_add, toNat_add1, List.length_append, List.length_cons, List.length_nil, List.length_replicate]; omega)) (by first | rfl | simp)) (by rfl) rfl ?_
          refine Runs_cnd rfl rfl (Grd.is rfl) [(29, _)] (fun hg => ⟨cnd_at rfl (by first | exact hg | exact hg.1 | exact hg.1.1 | exact hg.1.1.1), trivial⟩) (fun hg => Valid.loadelt rfl ag3 rfl) (by rfl) rfl ?_
          refine Runs_cnd rfl rfl (Grd.is rfl) [] (fun hg => trivial) (fun hg => Valid.movek (A := Is _) rfl rfl) (by rfl) rfl ?_
          refine Runs_cnd rfl rfl (Grd.is rfl) [(31, _)] (fun hg => ⟨cnd_at rfl (by first | exact hg | exact hg.1 | exact hg.1.1 | exact hg.1.1.1), trivial⟩) (fun hg => Valid.slen rfl Try.underlying9 rfl) (by rfl) rfl ?_
          refine Runs_cnd rfl rfl (Grd.is rfl) [(30, _), (32, _)] (fun hg => ⟨cnd_at rfl (by first | exact hg | exact hg.1 | exact hg.1.1 | exact hg.1.1.1), cnd_at rfl (by first | exact hg | exact hg.1 | exact hg.1.1 | exact hg.1.1.1), trivial⟩) (fun hg => Valid.geq rfl rfl rfl) (by rfl) rfl ?_
          refine Runs_p rfl (Valid.pickor rfl rfl rfl rfl (fun h => by first | exact h | exact ⟨hg, h⟩)) rfl rfl ?_ -- ref.go:73 pick
          refine Runs_nil ?_
          refine thenQ_n ?_
          refine W_cond _ rfl (fun hb3 => ?_) (fun hb3 => ?_)
          · try simp only [Int.toNat_natCast, decide_eq_true_eq, Bool.or_eq_true] at hb3
            all_goals (
              refine W_seq ?_
              refine W_regionE (c := 30) (c' := 32) (by kernel_rfl) rfl ?_
              refine Runs_p rfl (Valid.assignk (A := Is _) rfl rfl) rfl rfl ?_ -- ref.go:74 assign
              refine Runs_p rfl (Valid.assignk (A := Is _) rfl rfl) rfl rfl ?_ -- ref.go:74 assign
              refine Runs_nil ?_
              refine thenQ_n ?_
              refine W_ret ?_
              refine thenQ_r ?_
              refine blockQ_r ?_
              refine thenQ_r ?_
              refine loopQ_r ?_
              refine blockQ_r ?_
              refine thenQ_r ?_
              refine finQ_r ?_
              refine ResOk.two rfl (RVal.is rfl rfl (by first | (rw [backV_1 (by assumption)]; done) | (rw [backV_1 (by assumption)]; rfl) | (rw [backV_5 (by simpa using hb1) k (by omega) (by omega)]; done) | (rw [backV_5 (by simpa using hb1) k (by omega) (by omega)]; rfl) | (rw [backV_0 (by simpa using hb1) (fun j hj => hk2 j (by omega))]; done) | (rw [backV_0 (by simpa using hb1) (fun j hj => hk2 j (by omega)), show p.length = k by omega]; done))) (RVal.is rfl rfl (by first | (rw [backV_1 (by assumption)]; done) | (rw [backV_1 (by assumption)]; rfl) | (rw [backV_5 (by simpa using hb1) k (by omega) (by omega)]; done) | (rw [backV_5 (by simpa using hb1) k (by omega) (by omega)]; rfl) | (rw [backV_0 (by simpa using hb1) (fun j hj => hk2 j (by omega))]; done) | (rw [backV_0 (by simpa using hb1) (fun j hj => hk2 j (by omega)), show p.length = k by omega]; done)))
              done)
          · try simp only [Int.toNat_natCast, decide_eq_false_iff_not, Bool.or_eq_false_iff] at hb3
            all_goals (
              refine W_skip ?_
              refine thenQ_n ?_
              refine W_seq ?_
              refine W_drawE (c := 30) (c' := 44) (by kernel_rfl) rfl ?_
              refine Runs_p rfl (Valid.movek (A := Is _) rfl rfl) rfl rfl ?_ -- ref.go:76 move
              refine Runs_p rfl (Valid.movek (A := Is _) rfl rfl) rfl rfl ?_ -- ref.go:76 move
              refine Runs_p rfl (Valid.movek (A := Sl 1 _ _) rfl rfl) rfl rfl ?_ -- ref.go:76 move
              refine Runs_p rfl (Valid.movek (A := Is _) rfl rfl) rfl rfl ?_ -- ref.go:76 move
              refine Runs_p rfl (Valid.eltaddr1 0 rfl Try.underlying22 sz3 (Reads.sl rfl) rfl (by first | omega | (simp only [Int.toNat_natCast, toNat_add, toNat_add1, List.length_append, List.length_cons, List.length_nil, List.length_replicate]; omega)) (by first | rfl | simp)) rfl rfl ?_ -- ref.go:76 indexAddr
              refine Runs_p rfl (Valid.loadelt rfl ag3 rfl) rfl rfl ?_ -- ref.go:76 load
              refine Runs_p rfl (Valid.movek (A := Sl 1 _ _) rfl rfl) rfl rfl ?_ -- ref.go:76 move
              refine Runs_p rfl (Valid.movek (A := Is _) rfl rfl) rfl rfl ?_ -- ref.go:76 move
              refine Runs_p rfl (Valid.eltaddr1 0 rfl Try.underlying22 sz3 (Reads.sl rfl) rfl (by first | omega | (simp only [Int.toNat_natCast, toNat_add, toNat_add1, List.length_append, List.length_cons, List.length_nil, List.length_replicate]; omega)) (by first | rfl | simp)) rfl rfl ?_ -- ref.go:76 indexAddr
              refine Runs_p rfl (Valid.loadelt rfl ag3 rfl) rfl rfl ?_ -- ref.go:76 load
              refine Runs_p rfl (Valid.add rfl rfl rfl (room64 (by first | omega | (simp only [Int.toNat_natCast, toNat_add, toNat_add1, List.length_append, List.length_cons, List.length_nil, List.length_replicate]; omega)) (by first | omega | (simp only [Int.toNat_natCast, toNat_add, toNat_add1, List.length_append, List.length_cons, List.length_nil, List.length_replicate]; omega)))) rfl rfl ?_ -- ref.go:76 binOp
              refine Runs_p rfl (Valid.sslice rfl Try.underlying9 rfl rfl rfl (by first | omega | (simp only [Int.toNat_natCast, toNat_add, toNat_add1, List.length_append, List.length_cons, List.length_nil, List.length_replicate]; omega))) rfl rfl ?_ -- ref.go:76 slice
              refine Runs_p rfl (Valid.cat rfl rfl rfl (by first | omega | (simp only [ByteArray.size_extract]; omega) | (simp only [maxLen]; omega))) rfl rfl ?_ -- ref.go:76 binOp
              refine Runs_p rfl (Valid.assignk (A := Is _) rfl rfl) rfl rfl ?_ -- ref.go:76 assign
              refine Runs_nil ?_
              refine ⟨_, _, rfl, rfl, by kernel_rfl, ?_⟩
              refine thenQ_n ?_
              refine W_regionE (c := 44) (c' := 51) (by kernel_rfl) rfl ?_
              refine Runs_p rfl (Valid.movek (A := Is _) rfl rfl) rfl rfl ?_ -- ref.go:77 move
              refine Runs_p rfl (Valid.movek (A := Sl 1 _ _) rfl rfl) rfl rfl ?_ -- ref.go:77 move
              refine Runs_p rfl (Valid.movek (A := Is _) rfl rfl) rfl rfl ?_ -- ref.go:77 move
              refine Runs_p rfl (Valid.eltaddr1 0 rfl Try.underlying22 sz3 (Reads.sl rfl) rfl (by first | omega | (simp only [Int.toNat_natCast, toNat_add, toNat_add1, List.length_append, List.length_cons, List.length_nil, List.length_replicate]; omega)) (by first | rfl | simp)) rfl rfl ?_ -- ref.go:77 indexAddr
              refine Runs_p rfl (Valid.loadelt rfl ag3 rfl) rfl rfl ?_ -- ref.go:77 load
              refine Runs_p rfl (Valid.call rfl (rfr_s _ _ (by omega) (by omega) (by omega)) ⟨argle rfl, argle rfl, trivial⟩) rfl rfl ?_ -- ref.go:77 call
              refine Runs_p rfl (Valid.assignk (A := Is _) rfl rfl) rfl rfl ?_ -- ref.go:77 assign
              refine Runs_nil ?_
              refine blockQ_n ?_
              refine thenQ_n ?_
              refine W_regionE (c := 51) (c' := 54) (by kernel_rfl) rfl ?_
              refine Runs_p rfl (Valid.movek (A := Is _) rfl rfl) rfl rfl ?_ -- ref.go:72 move
              refine Runs_p rfl (Valid.add rfl rfl rfl (room64 (by first | omega | (simp only [Int.toNat_natCast, toNat_add, toNat_add1, List.length_append, List.length_cons, List.length_nil, List.length_replicate]; omega)) (by first | omega | (simp only [Int.toNat_natCast, toNat_add, toNat_add1, List.length_append, List.length_cons, List.length_nil, List.length_replicate]; omega)))) rfl rfl ?_ -- ref.go:72 binOp
              refine Runs_p rfl (Valid.assignk (A := Is _) rfl rfl) rfl rfl ?_ -- ref.go:72 assign
              refine Runs_nil ?_
              refine LoopQ.next (k + 1) [] (⟨by omega, fun j hj => (by
                    by_cases e : j = k
                    · subst e; omega
                    · exact hk2 j (by omega))⟩) (by first | omega | (dsimp only; omega)) ⟨⟨(leq_is rfl rfl (by first | rfl | exact congrArg Value.string (bkS_1 _ _ _) | exact congrArg Value.string (txS_1 _ _ _ (by omega) (by omega)))), (leq_is rfl rfl (by first | rfl | exact congrArg Value.string (bkS_1 _ _ _) | exact congrArg Value.string (txS_1 _ _ _ (by omega) (by omega)))), (leq_is rfl rfl (by first | rfl | exact congrArg Value.string (bkS_1 _ _ _) | exact congrArg Value.string (txS_1 _ _ _ (by omega) (by omega)))), trivial⟩, ⟨(leq_sl (Reads.sl rfl) rfl rfl rfl), trivial⟩, trivial, trivial, rfl, ⟨supg rfl, supg rfl, supg rfl, trivial⟩, ⟨supg rfl, trivial⟩, trivial, trivial, rfl, rfl⟩
              done)
          done)
      · try simp only [decide_eq_false_iff_not] at hb2
        all_goals (
          refine W_exit ?_
          refine thenQ_e ?_
          refine loopQ_e ?_
          refine blockQ_x ?_
          refine thenQ_n ?_
          refine W_seq ?_
          refine W_regionE (c := 16) (c' := 19) (by kernel_rfl) rfl ?_
          refine Runs_p rfl (Valid.movek (A := Is _) rfl rfl) rfl rfl ?_ -- ref.go:79 move
          refine Runs_p rfl (Valid.assignk (A := Is _) rfl rfl) rfl rfl ?_ -- ref.go:79 assign
          refine Runs_p rfl (Valid.assignk (A := Is _) rfl rfl) rfl rfl ?_ -- ref.go:79 assign
          refine Runs_nil ?_
          refine thenQ_n ?_
          refine W_ret ?_
          refine finQ_r ?_
          refine ResOk.two rfl (RVal.is rfl rfl (by first | (rw [backV_1 (by assumption)]; done) | (rw [backV_1 (by assumption)]; rfl) | (rw [backV_5 (by simpa using hb1) k (by omega) (by omega)]; done) | (rw [backV_5 (by simpa using hb1) k (by omega) (by omega)]; rfl) | (rw [backV_0 (by simpa using hb1) (fun j hj => hk2 j (by omega))]; done) | (rw [backV_0 (by simpa using hb1) (fun j hj => hk2 j (by omega)), show p.length = k by omega]; done))) (RVal.is rfl rfl (by first | (rw [backV_1 (by assumption)]; done) | (rw [backV_1 (by assumption)]; rfl) | (rw [backV_5 (by simpa using hb1) k (by omega) (by omega)]; done) | (rw [backV_5 (by simpa using hb1) k (by omega) (by omega)]; rfl) | (rw [backV_0 (by simpa using hb1) (fun j hj => hk2 j (by omega))]; done) | (rw [backV_0 (by simpa using hb1) (fun j hj => hk2 j (by omega)), show p.length = k by omega]; done)))
          done)
      done)
end Fz
end Go.Proofs.Ytkjmdnehlodihaa
