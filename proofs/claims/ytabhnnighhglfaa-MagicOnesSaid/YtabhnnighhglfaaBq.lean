/-
  CONTRACTS of package bits: Put.
-/
import Derived.Test.YtabhnnighhglfaaBp
namespace Go.Proofs.Ytabhnnighhglfaa
open Go.RowKit
namespace Bt
open Bm
set_option maxRecDepth 100000 in
set_option maxHeartbeats 1000000 in
theorem put1_ok (rb base pb pn pv : Nat) (b : List Bool) (v n : Nat) (s : Value) (w : World) (hR : RowAt w rb base [] s)
    (_hb : pb < base ∧ pb ≠ rb) (hn : pn < base ∧ pn ≠ rb) (hv : pv < base ∧ pv ≠ rb)
    (cb0 : w.cell? ⟨pb, 0, none⟩ = some (.string (pack b))) (cb1 : w.cell? ⟨pb, 1, none⟩ = some (.int .i64 (b.length : Int)))
    (cn : w.cell? ⟨pn, 0, none⟩ = some (.int .i64 (n : Int))) (cv : w.cell? ⟨pv, 0, none⟩ = some (.int .u64 (v : Int)))
    (hv64 : v < 2 ^ 64) (hn64 : n ≤ 64) (hl : b.length ≤ 100000000000000) :
    Calls Try.prog 27 #[.pointer (some ⟨rb, 0, none⟩), .pointer (some ⟨pb, 0, none⟩), .pointer (some ⟨pn, 0, none⟩), .pointer (some ⟨pv, 0, none⟩)] w fun e w' =>
      e = .returned (.tuple #[]) ∧ (∃ s', RowAt w' rb base (b ++ num v n) s') ∧ Kept rb base w w' := by
  have hn64' : (n : Int) ≤ 64 := by omega
  go_enter Try.func27, Try.ntmps27
  go_wp2_with fail
  refine (join_at rb base [] b s w hR (by simp; omega)).mono ?_
  rintro e w1 ⟨rfl, ⟨s1, hr1⟩, hk1⟩
  have dn : w1.cell? ⟨pn, 0, none⟩ = some (.int .i64 (n : Int)) := by rw [hk1.cell hn.2 (.inl hn.1)]; exact cn
  have dv : w1.cell? ⟨pv, 0, none⟩ = some (.int .u64 (v : Int)) := by rw [hk1.cell hv.2 (.inl hv.1)]; exact cv
  have Hk1 := Lib.hid hk1
  have Hr1 := Lib.hid hr1
  clear hk1 hr1
  go_wp2_with fail
  refine (need_ok 1 _).mono ?_
  rintro e w2 ⟨rfl, rfl⟩
  go_wp2_with fail
  refine (lay_at rb base b s1 _ _ v n w1 Hr1.out rfl rfl hv64 hn64 (by omega)).mono ?_
  rintro e w3 ⟨rfl, hs3, hk3⟩
  have Hs3 := Lib.hid hs3
  have Hk3 := Lib.hid (Hk1.out.trans hk3)
  clear hs3 hk3
  go_wp2
  go_end0
  exact ⟨rfl, Hs3.out, Hk3.out⟩
set_option maxRecDepth 100000 in
set_option maxHeartbeats 1000000 in
theorem put1_arg (rb base pb pn pv : Nat) (b : List Bool) (n : Int) (s : Value) (w : World) (hR : RowAt w rb base [] s)
    (_hb : pb < base ∧ pb ≠ rb) (hn : pn < base ∧ pn ≠ rb)
    (cb0 : w.cell? ⟨pb, 0, none⟩ = some (.string (pack b))) (cb1 : w.cell? ⟨pb, 1, none⟩ = some (.int .i64 (b.length : Int)))
    (cn : w.cell? ⟨pn, 0, none⟩ = some (.int .i64 n)) (h : n < 0 ∨ 64 < n) (hl : b.length ≤ 100000000000000) :
    Calls Try.prog 27 #[.pointer (some ⟨rb, 0, none⟩), .pointer (some ⟨pb, 0, none⟩), .pointer (some ⟨pn, 0, none⟩), .pointer (some ⟨pv, 0, none⟩)] w fun e w' =>
      e = .panicked (up 1) ∧ Kept rb base w w' := by
  by_cases h0 : n < 0
  · have h0' : decide (0 ≤ n) = false := by simpa using h0
    have H0 := Lib.hid h0
    clear h0 h
    go_enter Try.func27, Try.ntmps27
    go_wp2_with fail
    refine (join_at rb base [] b s w hR (by simp; omega)).mono ?_
    rintro e w1 ⟨rfl, ⟨s1, hr1⟩, hk1⟩
    have dn : w1.cell? ⟨pn, 0, none⟩ = some (.int .i64 n) := by rw [hk1.cell hn.2 (.inl hn.1)]; exact cn
    have Hk1 := Lib.hid hk1
    clear hk1 hr1
    go_wp2_with fail
    refine (need_no 1 _).mono ?_
    rintro e w2 ⟨rfl, rfl⟩
    go_wp2
    exact ⟨rfl, rfl, Hk1.out⟩
  · have h1 : decide (0 ≤ n) = true := by simpa using h0
    have h2 : decide (n ≤ 64) = false := by simp; omega
    have H0 := Lib.hid h0
    clear h0 h
    go_enter Try.func27, Try.ntmps27
    go_wp2_with fail
    refine (join_at rb base [] b s w hR (by simp; omega)).mono ?_
    rintro e w1 ⟨rfl, ⟨s1, hr1⟩, hk1⟩
    have dn : w1.cell? ⟨pn, 0, none⟩ = some (.int .i64 n) := by rw [hk1.cell hn.2 (.inl hn.1)]; exact cn
    have Hk1 := Lib.hid hk1
    clear hk1 hr1
    go_wp2_with fail
    refine (need_no 1 _).mono ?_
    rintro e w2 ⟨rfl, rfl⟩
    go_wp2
    exact ⟨rfl, rfl, Hk1.out⟩
set_option maxRecDepth 100000 in
set_option maxHeartbeats 1000000 in
theorem put1_no (rb base pb : Nat) (t : ByteArray) (m : Int) (pn pv : Value) (s : Value) (w : World) (hR : RowAt w rb base [] s)
    (cb0 : w.cell? ⟨pb, 0, none⟩ = some (.string t)) (cb1 : w.cell? ⟨pb, 1, none⟩ = some (.int .i64 m))
    (hr : right t.data.toList m = false) (hs : t.size * 8 ≤ 9223372036854775807) (hn1 : -9223372036854775808 ≤ m) (hn2 : m ≤ 9223372036854775807) :
    Calls Try.prog 27 #[.pointer (some ⟨rb, 0, none⟩), .pointer (some ⟨pb, 0, none⟩), pn, pv] w fun e w' =>
      e = .panicked (up 1) ∧ Kept rb base w w' := by
  go_enter Try.func27, Try.ntmps27
  go_wp2_with fail
  refine (join_no _ t m w hr hs hn1 hn2).mono ?_
  rintro e w1 ⟨rfl, hb1⟩
  have Hb1 := Lib.hid hb1
  clear hb1
  go_wp2
  exact ⟨rfl, rfl, Kept.of_below hR.lt hR.le Hb1.out⟩
/-- the world in which Put calls grown -/
def pw (t : ByteArray) (m v n : Int) (w : World) : World := (((w.alloc (.cells #[.string t, .int .i64 m] 37)).alloc (.cells #[.int .u64 v] 22)).alloc (.cells #[.int .i64 n] 3)).alloc (.cells #[.string ⟨#[]⟩, .int .i64 0] 37)
set_option maxRecDepth 100000 in
set_option maxHeartbeats 1000000 in
theorem put_frame (t : ByteArray) (m v n : Int) (x : Int) (u0 u1 : Value) (w : World)
    (hg : Calls Try.prog 26 #[.func (.func 27) #[] #[.pointer (some ⟨w.heap.size, 0, none⟩), .pointer (some ⟨w.heap.size + 2, 0, none⟩), .pointer (some ⟨w.heap.size + 1, 0, none⟩)]] (pw t m v n w) fun e w' => e = .returned (.tuple #[.agg #[u0, u1], .int .i64 x]) ∧ Below (pw t m v n w).heap.size (pw t m v n w) w')
    (hu0 : ∃ t', u0 = .string t') (hu1 : ∃ n', u1 = .int .i64 n') :
    Calls Try.prog 19 #[.agg #[.string t, .int .i64 m], .int .u64 v, .int .i64 n] w fun e w' => e = .returned (.tuple #[.agg #[u0, u1], .int .i64 x]) ∧ Below w.heap.size w w' := by
  have hmf : ∀ (fn : Fn) (first cap : Array Value) (w : World), (Instr.makeFunc fn first cap).run Try.prog w = .ok (.func fn first cap) w := fun _ _ _ _ => rfl
  obtain ⟨t', rfl⟩ := hu0
  obtain ⟨n', rfl⟩ := hu1
  have Hg := Lib.hid hg
  clear hg
  go_enter Try.func19, Try.ntmps19
  go_wp2_with fail
  refine Hg.out.mono ?_
  rintro e w1 ⟨rfl, hb⟩
  have hz : (pw t m v n w).heap.size = w.heap.size + 4 := by simp [pw]
  rw [hz] at hb
  have a0 : w1.cell? ⟨w.heap.size + 3, 0, none⟩ = some (.string ⟨#[]⟩) := by rw [hb.cell (by simp), pw, new_cell (by simp)]; rfl
  have a1 : w1.cell? ⟨w.heap.size + 3, 1, none⟩ = some (.int .i64 0) := by rw [hb.cell (by simp), pw, new_cell (by simp)]; rfl
  have f0 : w1.frozen? ⟨w.heap.size + 3, 0, none⟩ = false := by rw [hb.frozen (by simp), pw, new_frozen (by simp)]
  have f1 : w1.frozen? ⟨w.heap.size + 3, 1, none⟩ = false := by rw [hb.frozen (by simp), pw, new_frozen (by simp)]
  have hB : Below w.heap.size w w1 := ((((((Below.refl w.heap.size w).alloc (Nat.le_refl _) _).alloc (by simp) _).alloc (by simp; omega) _).alloc (by simp; omega) _)).trans (hb.mono (by omega))
  have HB := Lib.hid hB
  clear hB hb hz Hg
  go_wp2
  refine bodyPost_ret (v := .tuple #[.agg #[.string t', .int .i64 n'], .int .i64 x]) (by simp [results, Try.results19, go_sem, a0, a1]) rfl ⟨rfl, ?_⟩
  exact (HB.out.setCell (p := ⟨w.heap.size + 3, 0, none⟩) (by simp) _).setCell (p := ⟨w.heap.size + 3, 1, none⟩) (by simp) _
theorem pw_size (t : ByteArray) (m v n : Int) (w : World) : (pw t m v n w).heap.size = w.heap.size + 4 := by simp [pw]
theorem pw_cells (t : ByteArray) (m v n : Int) (f : Value) (w : World) :
    (made (gw f (pw t m v n w))).cell? ⟨w.heap.size, 0, none⟩ = some (.string t) ∧ (made (gw f (pw t m v n w))).cell? ⟨w.heap.size, 1, none⟩ = some (.int .i64 m) ∧
    (made (gw f (pw t m v n w))).cell? ⟨w.heap.size + 1, 0, none⟩ = some (.int .u64 v) ∧ (made (gw f (pw t m v n w))).cell? ⟨w.heap.size + 2, 0, none⟩ = some (.int .i64 n) := by
  have hz := pw_size t m v n w
  have hs := gw_size f (pw t m v n w)
  have hb : Below (pw t m v n w).heap.size (pw t m v n w) (made (gw f (pw t m v n w))) := (gw_below f _).alloc (by rw [hs]; omega) _
  rw [hz] at hb
  refine ⟨?_, ?_, ?_, ?_⟩
  · rw [hb.cell (by simp), pw, old_cell (by simp; omega), old_cell (by simp; omega), old_cell (by simp), new_cell rfl]; rfl
  · rw [hb.cell (by simp), pw, old_cell (by simp; omega), old_cell (by simp; omega), old_cell (by simp), new_cell rfl]; rfl
  · rw [hb.cell (by simp), pw, old_cell (by simp), old_cell (by simp), new_cell (by simp)]; rfl
  · rw [hb.cell (by simp), pw, old_cell (by simp), new_cell (by simp)]; rfl
theorem put_ok (b : List Bool) (m x y : Int) (v n : Nat) (w : World) (hm : m = (b.length : Int)) (hx : x = (v : Int)) (hy : y = (n : Int)) (hv : v < 2 ^ 64) (hn : n ≤ 64) (hl : b.length ≤ 100000000000000) :
    Calls Try.prog 19 #[.agg #[.string (pack b), .int .i64 m], .int .u64 x, .int .i64 y] w fun e w' => e = .returned (.tuple #[bv (b ++ num v n), .int .i64 0]) ∧ Below w.heap.size w w' := by
  subst hm hx hy
  have hz := pw_size (pack b) (b.length : Int) (v : Int) (n : Int) w
  obtain ⟨c1, c2, c3, c4⟩ := pw_cells (pack b) (b.length : Int) (v : Int) (n : Int) (.func (.func 27) #[] #[.pointer (some ⟨w.heap.size, 0, none⟩), .pointer (some ⟨w.heap.size + 2, 0, none⟩), .pointer (some ⟨w.heap.size + 1, 0, none⟩)]) w
  refine put_frame (pack b) (b.length : Int) (v : Int) (n : Int) 0 _ _ w (grown_ok 27 _ (b ++ num v n) _ (fun _ _ => by kernel_rfl) ?_) ⟨_, rfl⟩ ⟨_, rfl⟩
  exact put1_ok _ _ w.heap.size (w.heap.size + 2) (w.heap.size + 1) b v n _ _ (gw_row _ _) (by omega) (by omega) (by omega) c1 c2 c4 c3 hv hn hl
theorem put_bad (t : ByteArray) (m v n : Int) (w : World) (h : right t.data.toList m = false ∨ n < 0 ∨ 64 < n) (hs : t.size ≤ 10000000000000) (hm1 : -9223372036854775808 ≤ m) (hm2 : m ≤ 9223372036854775807) :
    Calls Try.prog 19 #[.agg #[.string t, .int .i64 m], .int .u64 v, .int .i64 n] w fun e w' => e = .returned (.tuple #[noBits, .int .i64 1]) ∧ Below w.heap.size w w' := by
  have hz := pw_size t m v n w
  obtain ⟨c1, c2, c3, c4⟩ := pw_cells t m v n (.func (.func 27) #[] #[.pointer (some ⟨w.heap.size, 0, none⟩), .pointer (some ⟨w.heap.size + 2, 0, none⟩), .pointer (some ⟨w.heap.size + 1, 0, none⟩)]) w
  refine put_frame t m v n 1 _ _ w (grown_up 27 _ 1 _ (.inl rfl) (fun _ _ => by kernel_rfl) ?_) ⟨_, rfl⟩ ⟨_, rfl⟩
  cases hr : right t.data.toList m with
  | false => exact put1_no _ _ w.heap.size t m _ _ _ _ (gw_row _ _) c1 c2 hr (by omega) hm1 hm2
  | true =>
    rw [hr] at h
    obtain ⟨b, rfl, rfl⟩ := pack_of_right t m hr
    have hbl : b.length ≤ 100000000000000 := by rw [pack_size] at hs; omega
    exact put1_arg _ _ w.heap.size (w.heap.size + 2) (w.heap.size + 1) b n _ _ (gw_row _ _) (by omega) (by omega) c1 c2 c4 (h.resolve_left (by simp)) hbl
end Bt
end Go.Proofs.Ytabhnnighhglfaa
