/-
  PACKAGE bits' CONTRACTS, over abstract states.
-/
import Derived.Test.YtabhnnighhglfaaAbr
import Derived.Test.YtabhnnighhglfaaBc
namespace Go.Proofs.Ytabhnnighhglfaa
open Go.RowKit
namespace Bb
open Ab Bm Bt
theorem all2_len {σ : Names} {κ : Kw} {l : List AV} {m : List Value} (h : All2 σ κ l m) : m.length = l.length := h.length
/-- an older contract, at whatever world its arguments stand in -/
theorem lift {P : Program} {f : FuncId} {args : List AV} {A : AV} {v : Value} (hent : ∀ (l : Array Value) (w : World), (callFunc f l).run P w = .ok (.enter f l) w)
    (h : ∀ σ κ vs, All2 σ κ args vs → Calls P f vs.toArray κ.w fun e w' => e = .returned v ∧ Below κ.w.heap.size κ.w w') (hA : ∀ σ κ, A.p σ κ v) (hs : A.sup = []) : FPure P f args A where
  sup := hs
  ent := hent
  calls := fun σ κ us hus => by
    refine (h σ κ us hus).mono ?_
    rintro e w' ⟨rfl, hb⟩
    refine ⟨v, ⟨w', κ.own, fun b k hk => Nat.lt_of_lt_of_le (κ.lt b k hk) hb.size⟩, rfl, rfl, ⟨hb.os, hb.tape, hb.output, hb.size, fun b hlt ho => ⟨ho, hb.block b hlt⟩, fun b k ho => ⟨fun k' hk' => ?_, fun j u _ hu => ?_⟩⟩, fun b hlt => ⟨rfl, hb.block b hlt⟩, hA _ _⟩
    · have : κ.own b = some k' := hk'
      rw [ho] at this; cases this; exact Nat.le_refl _
    · have := hb.block b (κ.lt b k ho)
      simp only [World.cell?] at hu ⊢
      rw [this]; exact hu
/-- bits, as they are handed over -/
abbrev BV (s : ByteArray) (n : Int) : AV := Agg [Is (.string s), Is (.int .i64 n)]
theorem BV.is {σ : Names} {κ : Kw} {s : ByteArray} {n : Int} {v : Value} (h : (BV s n).p σ κ v) : v = .agg #[.string s, .int .i64 n] := by
  obtain ⟨us, rfl, h⟩ := h
  match us, h with
  | [a, b], ⟨h1, h2, _⟩ =>
    have h1 : a = .string s := h1
    have h2 : b = .int .i64 n := h2
    rw [h1, h2]
theorem BV.mk {σ : Names} {κ : Kw} (s : ByteArray) (n : Int) : (BV s n).p σ κ (.agg #[.string s, .int .i64 n]) := ⟨[_, _], rfl, rfl, rfl, trivial⟩
theorem TV.mk {σ : Names} {κ : Kw} {A : AV} {v : Value} (h : A.p σ κ v) (k : IntKind) (e : Int) : (Tup [A, Is (.int k e)]).p σ κ (.tuple #[v, .int k e]) := ⟨[_, _], rfl, h, rfl, trivial⟩
theorem put_f (b : List Bool) (m x y : Int) (v n : Nat) (hm : m = (b.length : Int)) (hx : x = (v : Int)) (hy : y = (n : Int)) (hv : v < 2 ^ 64) (hn : n ≤ 64) (hl : b.length ≤ 100000000000000) :
    FPure Try.prog 19 [BV (pack b) m, Is (.int .u64 x), Is (.int .i64 y)] (Tup [BV (pack (b ++ num v n)) ((b ++ num v n).length : Int), Is (.int .i64 0)]) :=
  lift (v := .tuple #[bv (b ++ num v n), .int .i64 0]) (run_callFunc Try.func19 rfl rfl) (fun σ κ vs h => by
    match vs, h with
    | [a, c, d], ⟨h1, h2, h3, _⟩ =>
      have h2 : c = .int .u64 x := h2
      have h3 : d = .int .i64 y := h3
      rw [BV.is h1, h2, h3]
      exact put_ok b m x y v n κ.w hm hx hy hv hn hl) (fun σ κ => TV.mk (BV.mk _ _) _ _) rfl
theorem put_no (t : ByteArray) (m v n : Int) (h : right t.data.toList m = false ∨ n < 0 ∨ 64 < n) (hs : t.size ≤ 10000000000000) (hm1 : -9223372036854775808 ≤ m) (hm2 : m ≤ 9223372036854775807) :
    FPure Try.prog 19 [BV t m, Is (.int .u64 v), Is (.int .i64 n)] (Tup [BV ⟨#[]⟩ 0, Is (.int .i64 1)]) :=
  lift (v := .tuple #[noBits, .int .i64 1]) (run_callFunc Try.func19 rfl rfl) (fun σ κ vs hv => by
    match vs, hv with
    | [a, c, d], ⟨h1, h2, h3, _⟩ =>
      have h2 : c = .int .u64 v := h2
      have h3 : d = .int .i64 n := h3
      rw [BV.is h1, h2, h3]
      exact put_bad t m v n κ.w h hs hm1 hm2) (fun σ κ => TV.mk (BV.mk _ _) _ _) rfl
/-- what Get tells -/
def getV (s : ByteArray) (a n : Int) : Int × Int :=
  if (decide (0 ≤ n) && decide (n ≤ 64) && decide (0 ≤ a)) = false then (0, 1) else if a + n ≤ 8 * s.size then (((val (bitsAt s.data.toList a.toNat n.toNat) : Nat) : Int), 0) else (0, 2)
theorem get_f (s : ByteArray) (a n : Int) (hs : s.size * 8 ≤ 9223372036854775807) (ha : a ≤ 9223372036854775807) :
    FPure Try.prog 21 [Is (.string s), Is (.int .i64 a), Is (.int .i64 n)] (Tup [Is (.int .u64 (getV s a n).1), Is (.int .i64 (getV s a n).2)]) :=
  lift (v := .tuple #[.int .u64 (getV s a n).1, .int .i64 (getV s a n).2]) (run_callFunc Try.func21 rfl rfl) (fun σ κ vs h => by
    match vs, h with
    | [b, c, d], ⟨h1, h2, h3, _⟩ =>
      have h1 : b = .string s := h1
      have h2 : c = .int .i64 a := h2
      have h3 : d = .int .i64 n := h3
      rw [h1, h2, h3]
      unfold getV
      by_cases hb : (decide (0 ≤ n) && decide (n ≤ 64) && decide (0 ≤ a)) = false
      · rw [if_pos hb]
        exact get_arg s a n κ.w hb
      · rw [if_neg hb]
        simp only [Bool.not_eq_false, Bool.and_eq_true, decide_eq_true_eq] at hb
        by_cases hc : a + n ≤ 8 * s.size
        · rw [if_pos hc]
          exact get_ok s a n a.toNat n.toNat κ.w (by omega) (by omega) (by omega) hs (by omega)
        · rw [if_neg hc]
          exact get_short s a n a.toNat n.toNat κ.w (by omega) (by omega) (by omega) hs (by omega) (by omega)) (fun σ κ => TV.mk (A := Is _) rfl _ _) rfl
theorem right_f (s : ByteArray) (n : Int) (hs : s.size * 8 ≤ 9223372036854775807) (hn1 : -9223372036854775808 ≤ n) (hn2 : n ≤ 9223372036854775807) :
    FPure Try.prog 39 [BV s n] (Is (.bool (right s.data.toList n))) :=
  lift (run_callFunc Try.func39 rfl rfl) (fun σ κ vs h => by
    match vs, h with
    | [a], ⟨h1, _⟩ =>
      rw [BV.is h1]
      exact right_at s n κ.w hs hn1 hn2) (fun σ κ => rfl) rfl
theorem bl_of {κ : Kw} {l : List (ByteArray × Int)} {v : Value} (h : SlP κ 2 l.length (pcells l) v) : Bl κ.w κ.w.heap.size v l := by
  obtain ⟨_, ⟨rfl, h2⟩ | ⟨ad, c, rfl, h3, h4, h5⟩⟩ := h
  · exact .inl ⟨_, _, rfl, List.eq_nil_of_length_eq_zero h2⟩
  · by_cases hl : l = []
    · subst hl; exact .inl ⟨_, _, rfl, rfl⟩
    · have hl : 0 < l.length := List.length_pos_iff.2 hl
      obtain ⟨ab, ao, asp⟩ := ad
      have key : ∀ i (h : i < l.length), asp = none ∧ κ.w.cell? ⟨ab, ao + i * 2, none⟩ = some (.string l[i].1) ∧ κ.w.cell? ⟨ab, ao + i * 2 + 1, none⟩ = some (.int .i64 l[i].2) := fun i hi => by
        have h6 := h5 _ _ (pcells_at l i hi).1
        have h7 := h5 _ _ (pcells_at l i hi).2
        exact ⟨h6.1, h6.2.1, by rw [Nat.add_assoc]; exact h7.2.1⟩
      have hsp : asp = none := (key 0 hl).1
      subst hsp
      exact .inr ⟨ab, ao, c, rfl, lt_of_cell (key 0 hl).2.1, h3, h4, fun i hi => (key i hi).2⟩
theorem cat_f (bs : List (List Bool)) (n : Nat) (xs : List Value) (hn : n = bs.length) (hx : xs = pcells (bs.map both)) (hl : bs.flatten.length ≤ 100000000000000) :
    FPure Try.prog 20 [Sl 2 n xs] (Tup [BV (pack bs.flatten) (bs.flatten.length : Int), Is (.int .i64 0)]) :=
  lift (v := .tuple #[bv bs.flatten, .int .i64 0]) (run_callFunc Try.func20 rfl rfl) (fun σ κ vs h => by
    subst hn hx
    match vs, h with
    | [v], ⟨h1, _⟩ =>
      have h1 : SlP κ 2 bs.length (pcells (bs.map both)) v := h1
      exact cat_ok v bs κ.w (bl_of (by rw [List.length_map]; exact h1)) hl) (fun σ κ => TV.mk (BV.mk _ _) _ _) rfl
theorem cat_n (bs : List (List Bool)) (t : ByteArray) (m : Int) (rest : List (ByteArray × Int)) (n : Nat) (xs : List Value) (hn : n = (bs.map both ++ (t, m) :: rest).length) (hx : xs = pcells (bs.map both ++ (t, m) :: rest)) (hl : bs.flatten.length ≤ 100000000000000)
    (hr : right t.data.toList m = false) (hs : t.size * 8 ≤ 9223372036854775807) (hm1 : -9223372036854775808 ≤ m) (hm2 : m ≤ 9223372036854775807) :
    FPure Try.prog 20 [Sl 2 n xs] (Tup [BV ⟨#[]⟩ 0, Is (.int .i64 1)]) :=
  lift (v := .tuple #[noBits, .int .i64 1]) (run_callFunc Try.func20 rfl rfl) (fun σ κ vs h => by
    subst hn hx
    match vs, h with
    | [v], ⟨h1, _⟩ => exact cat_no v bs t m rest κ.w (bl_of h1) hl hr hs hm1 hm2) (fun σ κ => TV.mk (BV.mk _ _) _ _) rfl
end Bb
end Go.Proofs.Ytabhnnighhglfaa
