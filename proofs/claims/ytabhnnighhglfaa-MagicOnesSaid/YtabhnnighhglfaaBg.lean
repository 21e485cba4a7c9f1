/-
  CONTRACTS of package bits: Get, Same.
-/
import Derived.Test.YtabhnnighhglfaaBq
namespace Go.Proofs.Ytabhnnighhglfaa
open Go.RowKit
namespace Bt
open Bm
set_option maxRecDepth 100000 in
set_option maxHeartbeats 1000000 in
theorem get1_ok (ps pa pn pv : Nat) (s : ByteArray) (a n : Nat) (u : Value) (w : World) (cs : w.cell? ⟨ps, 0, none⟩ = some (.string s)) (ca : w.cell? ⟨pa, 0, none⟩ = some (.int .i64 (a : Int))) (cn : w.cell? ⟨pn, 0, none⟩ = some (.int .i64 (n : Int)))
    (cv : w.cell? ⟨pv, 0, none⟩ = some u) (fv : w.frozen? ⟨pv, 0, none⟩ = false) (hn : n ≤ 64) (hs : s.size * 8 ≤ 9223372036854775807) (han : a + n ≤ 8 * s.size) :
    Calls Try.prog 33 #[.pointer (some ⟨pn, 0, none⟩), .pointer (some ⟨pa, 0, none⟩), .pointer (some ⟨ps, 0, none⟩), .pointer (some ⟨pv, 0, none⟩)] w fun e w' =>
      e = .returned (.tuple #[]) ∧ ∃ w0, Kit.Dr w w0 ∧ w' = w0.setCell ⟨pv, 0, none⟩ (.int .u64 ((val (bitsAt s.data.toList a n) : Nat) : Int)) := by
  have hn' : (n : Int) ≤ 64 := by omega
  have hh : decide ((n : Int) ≤ 8 * (s.size : Int) - (a : Int)) = true := by simp; omega
  have Hh := Lib.hid hh
  have ha : (a : Int) ≤ 9223372036854775807 := by omega
  clear hh
  go_enter Try.func33, Try.ntmps33
  go_wp2_with fail
  refine (need_ok 1 _).mono ?_
  rintro e w1 ⟨rfl, rfl⟩
  go_wp2_with fail
  refine (has_at s a n w hs (by omega) ha).mono ?_
  rintro e w1 ⟨rfl, rfl⟩
  rw [Hh.out]
  go_wp2_with fail
  refine (need_ok 2 _).mono ?_
  rintro e w1 ⟨rfl, rfl⟩
  go_wp2_with fail
  refine (take_at s _ _ a n w rfl rfl hn hs han).mono ?_
  rintro e w1 ⟨rfl, hd⟩
  have Hd := Lib.hid hd
  have cv1 : w1.cell? ⟨pv, 0, none⟩ = some u := by obtain ⟨k, rfl⟩ := hd; simpa using cv
  have fv1 : w1.frozen? ⟨pv, 0, none⟩ = false := by obtain ⟨k, rfl⟩ := hd; simpa using fv
  clear hd
  go_wp2
  go_end0
  exact ⟨rfl, w1, Hd.out, rfl⟩
set_option maxRecDepth 100000 in
set_option maxHeartbeats 1000000 in
theorem get1_short (ps pa pn : Nat) (pv : Value) (s : ByteArray) (a n : Nat) (w : World) (cs : w.cell? ⟨ps, 0, none⟩ = some (.string s)) (ca : w.cell? ⟨pa, 0, none⟩ = some (.int .i64 (a : Int))) (cn : w.cell? ⟨pn, 0, none⟩ = some (.int .i64 (n : Int)))
    (hn : n ≤ 64) (hs : s.size * 8 ≤ 9223372036854775807) (ha : (a : Int) ≤ 9223372036854775807) (han : 8 * s.size < a + n) :
    Calls Try.prog 33 #[.pointer (some ⟨pn, 0, none⟩), .pointer (some ⟨pa, 0, none⟩), .pointer (some ⟨ps, 0, none⟩), pv] w fun e w' => e = .panicked (up 2) ∧ w = w' := by
  have hn' : (n : Int) ≤ 64 := by omega
  have hh : decide ((n : Int) ≤ 8 * (s.size : Int) - (a : Int)) = false := by simp; omega
  have Hh := Lib.hid hh
  clear hh
  go_enter Try.func33, Try.ntmps33
  go_wp2_with fail
  refine (need_ok 1 _).mono ?_
  rintro e w1 ⟨rfl, rfl⟩
  go_wp2_with fail
  refine (has_at s a n w hs (by omega) ha).mono ?_
  rintro e w1 ⟨rfl, rfl⟩
  rw [Hh.out]
  go_wp2_with fail
  refine (need_no 2 _).mono ?_
  rintro e w1 ⟨rfl, rfl⟩
  go_wp2
  exact ⟨rfl, rfl, rfl⟩
set_option maxRecDepth 100000 in
set_option maxHeartbeats 1000000 in
theorem get1_arg (ps pv : Value) (pa pn : Nat) (a n : Int) (w : World) (ca : w.cell? ⟨pa, 0, none⟩ = some (.int .i64 a)) (cn : w.cell? ⟨pn, 0, none⟩ = some (.int .i64 n))
    (h : (decide (0 ≤ n) && decide (n ≤ 64) && decide (0 ≤ a)) = false) :
    Calls Try.prog 33 #[.pointer (some ⟨pn, 0, none⟩), .pointer (some ⟨pa, 0, none⟩), ps, pv] w fun e w' => e = .panicked (up 1) ∧ w = w' := by
  cases h1 : decide (0 ≤ n) with
  | false =>
    clear h
    go_enter Try.func33, Try.ntmps33
    go_wp2_with fail
    refine (need_no 1 _).mono ?_
    rintro e w1 ⟨rfl, rfl⟩
    go_wp2
    exact ⟨rfl, rfl, rfl⟩
  | true =>
    cases h2 : decide (n ≤ 64) with
    | false =>
      clear h
      go_enter Try.func33, Try.ntmps33
      go_wp2_with fail
      refine (need_no 1 _).mono ?_
      rintro e w1 ⟨rfl, rfl⟩
      go_wp2
      exact ⟨rfl, rfl, rfl⟩
    | true =>
      rw [h1, h2] at h
      have h3 : decide (0 ≤ a) = false := by simpa using h
      clear h
      go_enter Try.func33, Try.ntmps33
      go_wp2_with fail
      refine (need_no 1 _).mono ?_
      rintro e w1 ⟨rfl, rfl⟩
      go_wp2
      exact ⟨rfl, rfl, rfl⟩
/-- the world in which Get calls caught -/
def qw (s : ByteArray) (a n : Int) (w : World) : World := (((w.alloc (.cells #[.string s] 9)).alloc (.cells #[.int .i64 a] 3)).alloc (.cells #[.int .i64 n] 3)).alloc (.cells #[.int .u64 0] 22)
theorem qw_size (s : ByteArray) (a n : Int) (w : World) : (qw s a n w).heap.size = w.heap.size + 4 := by simp [qw]
theorem qw_below (s : ByteArray) (a n : Int) (w : World) : Below w.heap.size w (qw s a n w) :=
  ((((Below.refl w.heap.size w).alloc (Nat.le_refl _) _).alloc (by simp) _).alloc (by simp <;> omega) _).alloc (by simp <;> omega) _
theorem qw_cells (s : ByteArray) (a n : Int) (w : World) :
    (made (qw s a n w)).cell? ⟨w.heap.size, 0, none⟩ = some (.string s) ∧ (made (qw s a n w)).cell? ⟨w.heap.size + 1, 0, none⟩ = some (.int .i64 a) ∧
    (made (qw s a n w)).cell? ⟨w.heap.size + 2, 0, none⟩ = some (.int .i64 n) ∧ (made (qw s a n w)).cell? ⟨w.heap.size + 3, 0, none⟩ = some (.int .u64 0) ∧ (made (qw s a n w)).frozen? ⟨w.heap.size + 3, 0, none⟩ = false ∧
    (made (qw s a n w)).cell? ⟨w.heap.size + 4, 0, none⟩ = some (.int .i64 0) ∧ (made (qw s a n w)).frozen? ⟨w.heap.size + 4, 0, none⟩ = false := by
  have hz := qw_size s a n w
  refine ⟨?_, ?_, ?_, ?_, ?_, ?_, ?_⟩
  · rw [made, old_cell (by rw [hz]; simp), qw, old_cell (by simp <;> omega), old_cell (by simp <;> omega), old_cell (by simp), new_cell rfl]; rfl
  · rw [made, old_cell (by rw [hz]; simp), qw, old_cell (by simp <;> omega), old_cell (by simp), new_cell (by simp)]; rfl
  · rw [made, old_cell (by rw [hz]; simp), qw, old_cell (by simp), new_cell (by simp)]; rfl
  · rw [made, old_cell (by rw [hz]; simp), qw, new_cell (by simp)]; rfl
  · rw [made, old_frozen (by rw [hz]; simp), qw, new_frozen (by simp)]
  · rw [made, new_cell hz.symm]; rfl
  · rw [made, new_frozen hz.symm]
def getClosure (w : World) : Array Value := #[.pointer (some ⟨w.heap.size + 2, 0, none⟩), .pointer (some ⟨w.heap.size + 1, 0, none⟩), .pointer (some ⟨w.heap.size, 0, none⟩), .pointer (some ⟨w.heap.size + 3, 0, none⟩)]
set_option maxRecDepth 100000 in
set_option maxHeartbeats 1000000 in
theorem get_frame (s : ByteArray) (a n x v : Int) (w : World) (hc : Calls Try.prog 32 #[.func (.func 33) #[] (getClosure w)] (qw s a n w) fun e w' => e = .returned (.int .i64 x) ∧ w'.cell? ⟨w.heap.size + 3, 0, none⟩ = some (.int .u64 v) ∧ Below w.heap.size w w') :
    Calls Try.prog 21 #[.string s, .int .i64 a, .int .i64 n] w fun e w' => e = .returned (.tuple #[.int .u64 v, .int .i64 x]) ∧ Below w.heap.size w w' := by
  have hmf : ∀ (fn : Fn) (first cap : Array Value) (w : World), (Instr.makeFunc fn first cap).run Try.prog w = .ok (.func fn first cap) w := fun _ _ _ _ => rfl
  have Hc := Lib.hid hc
  clear hc
  go_enter Try.func21, Try.ntmps21
  go_wp2_with fail
  refine Hc.out.mono ?_
  rintro e w1 ⟨rfl, hv, hb⟩
  have Hb := Lib.hid hb
  clear hb Hc
  go_wp2
  exact bodyPost_ret (v := .tuple #[.int .u64 v, .int .i64 x]) (by simp [results, Try.results21, go_sem]) rfl ⟨rfl, Hb.out⟩
theorem get_ok (s : ByteArray) (x y : Int) (a n : Nat) (w : World) (hx : x = (a : Int)) (hy : y = (n : Int)) (hn : n ≤ 64) (hs : s.size * 8 ≤ 9223372036854775807) (han : a + n ≤ 8 * s.size) :
    Calls Try.prog 21 #[.string s, .int .i64 x, .int .i64 y] w fun e w' => e = .returned (.tuple #[.int .u64 ((val (bitsAt s.data.toList a n) : Nat) : Int), .int .i64 0]) ∧ Below w.heap.size w w' := by
  subst hx hy
  obtain ⟨c0, c1, c2, c3, f3, c4, f4⟩ := qw_cells s (a : Int) (n : Int) w
  have hz := qw_size s (a : Int) (n : Int) w
  refine get_frame s a n 0 _ w ?_
  have h1 := get1_ok w.heap.size (w.heap.size + 1) (w.heap.size + 2) (w.heap.size + 3) s a n _ _ c0 c1 c2 c3 f3 hn hs han
  refine (caught_ret 33 (getClosure w) (qw s a n w) _ (fun _ => by kernel_rfl) h1 ?_).mono ?_
  · rintro w' ⟨w0, ⟨k, rfl⟩, rfl⟩
    rw [hz]
    refine ⟨?_, ?_, ?_⟩
    · rw [World.cell?_setCell_other _ _ _ _ (by simp)]; simpa using c4
    · simpa using f4
    · simp [made, hz]
  · rintro e w' ⟨rfl, w1, ⟨w0, ⟨k, rfl⟩, rfl⟩, hb⟩
    rw [hz] at hb
    refine ⟨rfl, ?_, ?_⟩
    · rw [hb.cell (by simp [made, hz]), World.cell?_setCell_other _ _ _ _ (by simp)]
      exact World.cell?_setCell_same _ _ _ (by simpa using c3)
    · have hm : Below w.heap.size w ((made (qw s a n w)).drewN k) := ((qw_below s a n w).alloc (by rw [hz]; omega) _).trans (Kit.Dr.below ⟨k, rfl⟩ _)
      exact ((hm.setCell (p := ⟨w.heap.size + 3, 0, none⟩) (by simp) _).setCell (p := ⟨w.heap.size + 4, 0, none⟩) (by simp) _).trans (hb.mono (by simp [made, hz]; omega))
theorem get_up (s : ByteArray) (a n x : Int) (w : World)
    (h1 : Calls Try.prog 33 (getClosure w) (made (qw s a n w)) fun e w' => e = .panicked (up x) ∧ made (qw s a n w) = w') :
    Calls Try.prog 21 #[.string s, .int .i64 a, .int .i64 n] w fun e w' => e = .returned (.tuple #[.int .u64 0, .int .i64 x]) ∧ Below w.heap.size w w' := by
  obtain ⟨c0, c1, c2, c3, f3, c4, f4⟩ := qw_cells s a n w
  have hz := qw_size s a n w
  refine get_frame s a n x 0 w ?_
  refine (caught_up 33 (getClosure w) x (qw s a n w) _ (fun _ => by kernel_rfl) h1 ?_).mono ?_
  · rintro w' rfl
    rw [hz]
    exact ⟨c4, f4, by simp [made, hz]⟩
  · rintro e w' ⟨rfl, w1, rfl, hb⟩
    rw [hz] at hb
    refine ⟨rfl, ?_, ?_⟩
    · rw [hb.cell (by simp)]; exact c3
    · exact ((qw_below s a n w).alloc (by rw [hz]; omega) _).trans (hb.mono (by omega))
theorem get_short (s : ByteArray) (x y : Int) (a n : Nat) (w : World) (hx : x = (a : Int)) (hy : y = (n : Int)) (hn : n ≤ 64) (hs : s.size * 8 ≤ 9223372036854775807) (ha : (a : Int) ≤ 9223372036854775807) (han : 8 * s.size < a + n) :
    Calls Try.prog 21 #[.string s, .int .i64 x, .int .i64 y] w fun e w' => e = .returned (.tuple #[.int .u64 0, .int .i64 2]) ∧ Below w.heap.size w w' := by
  subst hx hy
  obtain ⟨c0, c1, c2, c3, f3, c4, f4⟩ := qw_cells s (a : Int) (n : Int) w
  exact get_up s a n 2 w (get1_short w.heap.size (w.heap.size + 1) (w.heap.size + 2) _ s a n _ c0 c1 c2 hn hs ha han)
theorem get_arg (s : ByteArray) (a n : Int) (w : World) (h : (decide (0 ≤ n) && decide (n ≤ 64) && decide (0 ≤ a)) = false) :
    Calls Try.prog 21 #[.string s, .int .i64 a, .int .i64 n] w fun e w' => e = .returned (.tuple #[.int .u64 0, .int .i64 1]) ∧ Below w.heap.size w w' := by
  obtain ⟨c0, c1, c2, c3, f3, c4, f4⟩ := qw_cells s a n w
  exact get_up s a n 1 w (get1_arg _ _ (w.heap.size + 1) (w.heap.size + 2) a n _ c1 c2 h)
end Bt
end Go.Proofs.Ytabhnnighhglfaa
