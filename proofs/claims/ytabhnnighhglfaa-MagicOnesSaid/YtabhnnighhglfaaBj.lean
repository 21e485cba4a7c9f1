/-
  CONTRACTS of package bits: join, bits, the closures, grown, Put.
-/
import Derived.Test.YtabhnnighhglfaaBl
namespace Go.Proofs.Ytabhnnighhglfaa
open Go.RowKit
namespace Bt
open Bm
/-- bits as a text -/
def pack (b : List Bool) : ByteArray := ⟨(enc b).toArray⟩
theorem pack_size (b : List Bool) : (pack b).size = (b.length + 7) / 8 := by
  have : (pack b).size = (enc b).length := by simp [pack, ByteArray.size]
  rw [this, enc_len]
theorem pack_list (b : List Bool) : (pack b).data.toList = enc b := by simp [pack]
theorem right_pack (b : List Bool) : right (pack b).data.toList (b.length : Int) = true := by
  unfold right
  rw [pack_list, Int.toNat_natCast, bitsAt_enc0, enc_len]
  simp
theorem pack_of_right (s : ByteArray) (n : Int) (h : right s.data.toList n = true) : ∃ b : List Bool, s = pack b ∧ n = (b.length : Int) := by
  unfold right at h
  simp only [Bool.and_eq_true, decide_eq_true_eq] at h
  refine ⟨bitsAt s.data.toList 0 n.toNat, ?_, by rw [bitsAt_len]; omega⟩
  unfold pack
  rw [h.2]
theorem right_ok (b : List Bool) (w : World) (hb : b.length ≤ 1000000000000000) :
    Calls Try.prog 39 #[.agg #[.string (pack b), .int .i64 (b.length : Int)]] w fun e w' => e = .returned (.bool true) ∧ Below w.heap.size w w' := by
  have := right_at (pack b) (b.length : Int) w (by rw [pack_size]; omega) (by omega) (by omega)
  rwa [right_pack] at this
theorem RowAt.below {w w' : World} {rb base : Nat} {l : List Bool} {v : Value} (h : RowAt w rb base l v) (hb : Below w.heap.size w w') : RowAt w' rb base l v := by
  have hlt : rb < w.heap.size := Nat.lt_of_lt_of_le h.lt h.le
  refine ⟨h.lt, Nat.le_trans h.le hb.size, ?_, ?_, ?_, ?_, ?_⟩
  · rw [hb.cell (p := ⟨rb, 0, none⟩) hlt]; exact h.c0
  · rw [hb.cell (p := ⟨rb, 1, none⟩) hlt]; exact h.c1
  · rw [hb.frozen (p := ⟨rb, 0, none⟩) hlt]; exact h.z0
  · rw [hb.frozen (p := ⟨rb, 1, none⟩) hlt]; exact h.z1
  · obtain ⟨h1, h2 | ⟨g, cap, cur, e1, e2, e3, e4⟩⟩ := h.own
    · exact ⟨h1, .inl h2⟩
    · exact ⟨h1, .inr ⟨g, cap, cur, e1, e2, (hb.block g (Array.getElem?_eq_some_iff.1 e3).1).trans e3, e4⟩⟩
theorem Kept.of_below {rb base : Nat} (h : rb < base) {w w' : World} (hs : base ≤ w.heap.size) (hb : Below w.heap.size w w') : Kept rb base w w' := (Kept.refl h w).full hs hb

set_option maxRecDepth 100000 in
set_option maxHeartbeats 1000000 in
theorem join_no (p : Value) (s : ByteArray) (n : Int) (w : World) (hr : right s.data.toList n = false) (hs : s.size * 8 ≤ 9223372036854775807) (hn1 : -9223372036854775808 ≤ n) (hn2 : n ≤ 9223372036854775807) :
    Calls Try.prog 28 #[p, .agg #[.string s, .int .i64 n]] w fun e w' => e = .panicked (up 1) ∧ Below w.heap.size w w' := by
  go_enter Try.func28, Try.ntmps28
  go_wp2_with fail
  refine (right_at s n _ hs hn1 hn2).mono ?_
  rintro e w1 ⟨rfl, hb1⟩
  rw [hr]
  have Hb1 := Lib.hid hb1
  clear hb1
  go_wp2_with fail
  refine (need_no 1 _).mono ?_
  rintro e w2 ⟨rfl, rfl⟩
  go_wp2
  exact ⟨rfl, rfl, ((Below.refl w.heap.size w).alloc (Nat.le_refl _) _).trans (Hb1.out.mono (by simp))⟩
set_option maxRecDepth 100000 in
set_option maxHeartbeats 1000000 in
theorem join_at (rb base : Nat) (l b : List Bool) (s : Value) (w : World) (hR : RowAt w rb base l s) (hl : l.length + b.length ≤ 1000000000000000) :
    Calls Try.prog 28 #[.pointer (some ⟨rb, 0, none⟩), .agg #[.string (pack b), .int .i64 (b.length : Int)]] w fun e w' => e = .returned (.tuple #[]) ∧ (∃ s', RowAt w' rb base (l ++ b) s') ∧ Kept rb base w w' := by
  go_enter Try.func28, Try.ntmps28
  go_wp2_with fail
  refine (right_ok b _ (by omega)).mono ?_
  rintro e w1 ⟨rfl, hb1⟩
  have Hb1 := Lib.hid hb1
  clear hb1
  go_wp2_with fail
  refine (need_ok 1 _).mono ?_
  rintro e w2 ⟨rfl, rfl⟩
  have hc0 : w1.cell? ⟨w.heap.size, 0, none⟩ = some (.string (pack b)) := by rw [Hb1.out.cell (by simp)]; simp
  have hc1 : w1.cell? ⟨w.heap.size, 1, none⟩ = some (.int .i64 (b.length : Int)) := by rw [Hb1.out.cell (by simp)]; simp
  have hB : Below w.heap.size w w1 := ((Below.refl w.heap.size w).alloc (Nat.le_refl _) _).trans (Hb1.out.mono (by simp))
  have hR1 := hR.below hB
  have Hk1 := Lib.hid (Kept.of_below hR.lt hR.le hB)
  have Hs1 : Hid (w.heap.size < w1.heap.size) := Nat.lt_of_lt_of_le (by simp) Hb1.out.size
  have Hn1 : Hid (NotBytes w1 w.heap.size) := (by
    intro c f
    rw [Hb1.out.block _ (by simp), heap_alloc_new]
    simp : NotBytes w1 w.heap.size)
  have HR1 := Lib.hid hR1
  have Hlb : Hid (w.heap.size ≠ rb ∧ base ≤ w.heap.size ∧ rb < base) := (⟨by have := hR.lt; have := hR.le; omega, hR.le, hR.lt⟩ : _ ∧ _ ∧ _)
  clear Hb1 hB hR1 hR
  go_wp2
  go_loopw [4, 5] (fun kv _ wr => ∃ j : Nat, kv = .int .i64 ((64 * j : Nat) : Int) ∧ 64 * j < b.length + 64 ∧ (∃ s', RowAt wr rb base (l ++ bitsAt (enc b) 0 (min (64 * j) b.length)) s') ∧ Kept rb base w1 wr) (fun kv _ _ => b.length + 64 - (intOf kv).toNat)
  case atStart => exact ⟨0, rfl, by omega, ⟨s, by simpa [bitsAt] using HR1.out⟩, Kept.refl Hlb.out.2.2 _⟩
  case round =>
    obtain ⟨j, rfl, hj, ⟨s', hr⟩, hk⟩ := hrel
    have Hr := Lib.hid hr
    have Hk := Lib.hid hk
    have d0 : wr.cell? ⟨w.heap.size, 0, none⟩ = some (.string (pack b)) := by rw [hk.cell Hlb.out.1 (.inr ⟨Hs1.out, Hn1.out⟩)]; exact hc0
    have d1 : wr.cell? ⟨w.heap.size, 1, none⟩ = some (.int .i64 (b.length : Int)) := by rw [hk.cell Hlb.out.1 (.inr ⟨Hs1.out, Hn1.out⟩)]; exact hc1
    clear hr hk
    obtain ⟨k, hk⟩ : ∃ k, 64 * j = k := ⟨_, rfl⟩
    rw [hk] at Hr hj ⊢
    by_cases hlt : k < b.length
    · obtain ⟨r, hr⟩ : ∃ r, b.length - k = r := ⟨_, rfl⟩
      have hX : (b.length : Int) - (k : Int) = (r : Int) := by omega
      go_wp2_with (refine Kit.wpList_min rfl (.const (.int .i64 64)) (.tmp 18) 3 rfl 64 r rfl rfl ?_; intro n hn1 hn2 hn3)
      have hps : (pack b).size = (b.length + 7) / 8 := pack_size b
      refine (take_at (pack b) _ _ k n _ rfl rfl (by omega) (by omega) (by omega)).mono ?_
      rintro e w3 ⟨rfl, hdr⟩
      rw [pack_list]
      have hRr := (Hr.out.below (hdr.below _))
      have hlen : (l ++ bitsAt (enc b) 0 (min k b.length)).length = l.length + k := by rw [List.length_append, bitsAt_len]; omega
      go_wp2_with fail
      refine (lay_at rb base _ _ _ _ _ n _ hRr rfl rfl ?_ (by omega) (by rw [hlen]; omega)).mono ?_
      · refine Nat.lt_of_lt_of_le (val_lt _) ?_
        rw [bitsAt_len]
        exact Nat.pow_le_pow_right (by omega) (by omega)
      rintro e w4 ⟨rfl, ⟨s4, hR4⟩, hk4⟩
      have hR5 : Hid (RowAt w4 rb base (l ++ bitsAt (enc b) 0 (min (k + n) b.length)) s4) := by
        have e1 : num (val (bitsAt (enc b) k n)) n = bitsAt (enc b) k n := by
          have := num_val (bitsAt (enc b) k n)
          rwa [bitsAt_len] at this
        rw [e1, List.append_assoc] at hR4
        have e2 := bitsAt_split (enc b) 0 k n
        rw [Nat.zero_add] at e2
        rw [show min k b.length = k by omega, ← e2] at hR4
        rw [show min (k + n) b.length = k + n by omega]
        exact hR4
      have Hk4 : Hid (Kept rb base w1 w4) := (Hk.out.full Hr.out.le (hdr.below _)).trans hk4
      clear hR4 hk4 hRr hdr
      go_wp2
      go_roundw
      case rel =>
        refine ⟨j + 1, ?_, by omega, ⟨s4, ?_⟩, Hk4.out⟩
        · congr 1; omega
        · rw [show min (64 * (j + 1)) b.length = min (k + n) b.length by omega]; exact hR5.out
      case measure => simp [intOf]; omega
    · go_wp2
      go_end0
      refine ⟨rfl, ⟨s', ?_⟩, Hk1.out.trans Hk.out⟩
      have := Hr.out
      rwa [show min k b.length = b.length by omega, bitsAt_enc0] at this
set_option maxRecDepth 100000 in
set_option maxHeartbeats 1000000 in
theorem rowbits_at (rb base : Nat) (l : List Bool) (s : Value) (w : World) (hR : RowAt w rb base l s) :
    Calls Try.prog 38 #[.pointer (some ⟨rb, 0, none⟩)] w fun e w' => e = .returned (.agg #[.string (pack l), .int .i64 (l.length : Int)]) ∧ Below w.heap.size w w' := by
  have hc0 := hR.c0
  have hc1 := hR.c1
  have hlt : rb < w.heap.size := Nat.lt_of_lt_of_le hR.lt hR.le
  have hne : ¬ rb = w.heap.size := by omega
  have hne2 : ¬ w.heap.size = rb := by omega
  have HR := Lib.hid hR
  clear hR
  go_enter Try.func38, Try.ntmps38
  go_wp2
  obtain ⟨W, hW⟩ : ∃ W, w.alloc (.cells #[.string ⟨#[]⟩, .int .i64 0] 37) = W := ⟨_, rfl⟩
  have a0 : W.cell? ⟨w.heap.size, 0, none⟩ = some (.string ⟨#[]⟩) := by rw [← hW]; simp
  have a1 : W.cell? ⟨w.heap.size, 1, none⟩ = some (.int .i64 0) := by rw [← hW]; simp
  have f0 : W.frozen? ⟨w.heap.size, 0, none⟩ = false := by rw [← hW]; simp
  have f1 : W.frozen? ⟨w.heap.size, 1, none⟩ = false := by rw [← hW]; simp
  have hB : Below w.heap.size w W := by rw [← hW]; exact (Below.refl _ _).alloc (Nat.le_refl _) _
  have c0 : W.cell? ⟨rb, 0, none⟩ = some s := by rw [hB.cell hlt]; exact hc0
  have c1 : W.cell? ⟨rb, 1, none⟩ = some (.int .i64 (l.length : Int)) := by rw [hB.cell hlt]; exact hc1
  have hself : W.drew = (W.drew.setCell ⟨w.heap.size, 0, none⟩ (.string ⟨#[]⟩)).setCell ⟨w.heap.size, 1, none⟩ (.int .i64 0) := by
    rw [Sched.setCell_self (w := W.drew) (by simpa using a0), Sched.setCell_self (w := W.drew) (by simpa using a1)]
  rw [hW]
  have HB := Lib.hid hB
  clear hc0 hc1 hW hB
  refine Sched.region_mid (fun w' => ∃ u : Nat → Value, w' = (W.drew.setCell ⟨w.heap.size, 0, none⟩ (u 0)).setCell ⟨w.heap.size, 1, none⟩ (u 1)) [0, 1, 2, 3, 4, 5, 6, 7, 8, 9] [] 10 ⟨fun n => if n = 0 then .string ⟨#[]⟩ else .int .i64 0, hself⟩ (by kernel_rfl) (by kernel_rfl) ?_
  clear hself
  simp only [Sched.pick_cons, Sched.pick_nil, Sched.at_succ, Sched.at_zero]
  iterate 4 (go_big_quiet_want; go_big_quiet_op; go_big_quiet_on)
  go_big_quiet_want
  refine Kit.quiet_to_string 45 9 5 (.tmp 6) rfl Try.underlying45 Try.underlying5 Try.underlying9 s (enc l).length (enc l) rfl ?_ ?_
  · rintro w' ⟨u, rfl⟩
    refine ((Kit.Sl.own HR.out.own).below ?_)
    exact ((HB.out.drew).setCell (p := ⟨w.heap.size, 0, none⟩) (Nat.le_refl _) (u 0)).setCell (p := ⟨w.heap.size, 1, none⟩) (Nat.le_refl _) (u 1)
  simp only [Act.put, List.setIfInBounds_toArray, List.set_cons_succ, List.set_cons_zero]
  go_big_quiet_on
  iterate 5 (go_big_quiet_want; go_big_quiet_op; go_big_quiet_on)
  refine wpQuiet_nil ?_
  refine wpQuiet_nil ?_
  go_wp2
  refine ⟨⟨fun n => if n = 0 then .string (pack l) else .int .i64 (l.length : Int), rfl⟩, ?_⟩
  refine NoPanic.normal ?_
  go_wp2
  refine bodyPost_ret (v := .agg #[.string (pack l), .int .i64 (l.length : Int)]) (by simp [results, Try.results38, go_sem, a0, a1]; rfl) rfl ⟨rfl, ?_⟩
  exact ((HB.out.drew).setCell (p := ⟨w.heap.size, 0, none⟩) (Nat.le_refl _) _).setCell (p := ⟨w.heap.size, 1, none⟩) (Nat.le_refl _) _
end Bt
end Go.Proofs.Ytabhnnighhglfaa
