/-
  CONTRACTS of package bits: Same.
-/
import Derived.Test.YtlcephckjhiggaaBg
namespace Go.Proofs.Ytlcephckjhiggaa
open Go.RowKit
namespace Bt
open Bm
def same (t : List UInt8) (a : Int) (b : List Bool) : Bool := decide (0 ≤ a) && decide (a.toNat + b.length ≤ 8 * t.length) && decide (bitsAt t a.toNat b.length = b)
theorem bitsAt_prefix (t : List UInt8) (a k n : Nat) (h : k ≤ n) : bitsAt t a k = (bitsAt t a n).take k := by
  have := bitsAt_split t a k (n - k)
  rw [show k + (n - k) = n by omega] at this
  rw [this, List.take_append_of_le_length (by rw [bitsAt_len]; exact Nat.le_refl _), List.take_of_length_le (by rw [bitsAt_len]; exact Nat.le_refl _)]
theorem bitsAt_part (t : List UInt8) (a k m n : Nat) (h : k + m ≤ n) : bitsAt t (a + k) m = ((bitsAt t a n).drop k).take m := by
  have h1 := bitsAt_split t a k (n - k)
  rw [show k + (n - k) = n by omega] at h1
  have h2 := bitsAt_split t (a + k) m (n - k - m)
  rw [show m + (n - k - m) = n - k by omega] at h2
  rw [h1, List.drop_append_of_le_length (by rw [bitsAt_len]; exact Nat.le_refl _), List.drop_of_length_le (by rw [bitsAt_len]; exact Nat.le_refl _), List.nil_append, h2, List.take_append_of_le_length (by rw [bitsAt_len]; exact Nat.le_refl _), List.take_of_length_le (by rw [bitsAt_len]; exact Nat.le_refl _)]
set_option maxRecDepth 100000 in
set_option maxHeartbeats 1000000 in
theorem same_no (t s : ByteArray) (a m : Int) (w : World) (hr : right s.data.toList m = false) (hs : s.size * 8 ≤ 9223372036854775807) (hn1 : -9223372036854775808 ≤ m) (hn2 : m ≤ 9223372036854775807) :
    Calls Try.prog 19 #[.string t, .int .i64 a, .agg #[.string s, .int .i64 m]] w fun e w' => e = .returned (.bool false) ∧ Below w.heap.size w w' := by
  go_enter Try.func19, Try.ntmps19
  go_wp2_with fail
  refine (right_at s m _ hs hn1 hn2).mono ?_
  rintro e w1 ⟨rfl, hb1⟩
  rw [hr]
  have Hb1 := Lib.hid hb1
  clear hb1 hr
  go_wp2
  go_ret
  exact ⟨rfl, ((Below.refl w.heap.size w).alloc (Nat.le_refl _) _).trans (Hb1.out.mono (by simp))⟩
set_option maxRecDepth 100000 in
set_option maxHeartbeats 1000000 in
theorem same_ok (t : ByteArray) (a m : Int) (b : List Bool) (w : World) (hm : m = (b.length : Int)) (hs : t.size * 8 ≤ 9223372036854775807) (hl : b.length ≤ 100000000000000) (ha : a ≤ 9000000000000000000) :
    Calls Try.prog 19 #[.string t, .int .i64 a, .agg #[.string (pack b), .int .i64 m]] w fun e w' => e = .returned (.bool (same t.data.toList a b)) ∧ Below w.heap.size w w' := by
  subst hm
  by_cases h0 : a < 0
  · have hd : same t.data.toList a b = false := by unfold same; rw [decide_eq_false (by omega)]; rfl
    have Hd := Lib.hid hd
    have ht : decide (a < 0) = true := by simpa using h0
    clear hd h0
    go_enter Try.func19, Try.ntmps19
    go_wp2_with fail
    refine (right_ok b _ (by omega)).mono ?_
    rintro e w1 ⟨rfl, hb1⟩
    have Hb1 := Lib.hid hb1
    clear hb1
    go_wp2
    go_ret
    exact ⟨Kit.ret_bool Hd.out.symm, ((Below.refl w.heap.size w).alloc (Nat.le_refl _) _).trans (Hb1.out.mono (by simp))⟩
  · obtain ⟨c, rfl⟩ := Int.eq_ofNat_of_zero_le (show 0 ≤ a by omega)
    have ht : decide ((c : Int) < 0) = false := by simp
    have hc1 : ∀ w1, Below (w.alloc (.cells #[.string (pack b), .int .i64 (b.length : Int)] 25)).heap.size (w.alloc (.cells #[.string (pack b), .int .i64 (b.length : Int)] 25)) w1 →
        w1.cell? ⟨w.heap.size, 0, none⟩ = some (.string (pack b)) ∧ w1.cell? ⟨w.heap.size, 1, none⟩ = some (.int .i64 (b.length : Int)) := by
      intro w1 hb
      exact ⟨by rw [hb.cell (by simp), new_cell rfl]; rfl, by rw [hb.cell (by simp), new_cell rfl]; rfl⟩
    by_cases hfit : c + b.length ≤ 8 * t.size
    · have hh : decide ((b.length : Int) ≤ 8 * (t.size : Int) - (c : Int)) = true := by simp; omega
      have hd : same t.data.toList c b = decide (bitsAt t.data.toList c b.length = b) := by
        unfold same
        rw [decide_eq_true (by omega), decide_eq_true (by simp; exact hfit)]; simp
      have Hh := Lib.hid hh
      have Hd := Lib.hid hd
      clear hh hd h0
      go_enter Try.func19, Try.ntmps19
      go_wp2_with fail
      refine (right_ok b _ (by omega)).mono ?_
      rintro e w1 ⟨rfl, hb1⟩
      obtain ⟨d0, d1⟩ := hc1 w1 hb1
      have hB : Below w.heap.size w w1 := ((Below.refl w.heap.size w).alloc (Nat.le_refl _) _).trans (hb1.mono (by simp))
      have HB := Lib.hid hB
      clear hb1 hB hc1
      go_wp2_with fail
      refine (has_at t c _ _ hs (by omega) (by omega)).mono ?_
      rintro e w2 ⟨rfl, rfl⟩
      rw [Hh.out]
      go_wp2
      go_loopw [7, 8] (fun kv _ wr => ∃ j : Nat, kv = .int .i64 ((64 * j : Nat) : Int) ∧ 64 * j < b.length + 64 ∧ bitsAt t.data.toList c (min (64 * j) b.length) = bitsAt (enc b) 0 (min (64 * j) b.length) ∧ Kit.Dr w1 wr) (fun kv _ _ => b.length + 64 - (intOf kv).toNat)
      case atStart => exact ⟨0, rfl, by omega, by simp [bitsAt], Kit.Dr.refl _⟩
      case round =>
        obtain ⟨j, rfl, hj, heq, hdr⟩ := hrel
        have e0 : wr.cell? ⟨w.heap.size, 0, none⟩ = some (.string (pack b)) := by obtain ⟨nw, rfl⟩ := hdr; exact d0
        have e1 : wr.cell? ⟨w.heap.size, 1, none⟩ = some (.int .i64 (b.length : Int)) := by obtain ⟨nw, rfl⟩ := hdr; exact d1
        have Hdr := Lib.hid hdr
        clear hdr
        obtain ⟨k, hk⟩ : ∃ k, 64 * j = k := ⟨_, rfl⟩
        rw [hk] at heq hj ⊢
        have Heq := Lib.hid heq
        have Hk := Lib.hid hk
        clear heq hk
        by_cases hlt : k < b.length
        · obtain ⟨r, hr⟩ : ∃ r, b.length - k = r := ⟨_, rfl⟩
          have hX : (b.length : Int) - (k : Int) = (r : Int) := by omega
          have Hr := Lib.hid hr
          clear hr
          go_wp2_with (refine Kit.wpList_min rfl (.const (.int .i64 64)) (.tmp 33) 3 rfl 64 r rfl rfl ?_; intro n hn1 hn2 hn3)
          have hps : (pack b).size = (b.length + 7) / 8 := pack_size b
          have hsum : (c : Int) + (k : Int) ≤ 9223372036854775807 := by have := Hr.out; omega
          have hcs : c + k + n ≤ 8 * t.size := by have := Hr.out; omega
          have hks : k + n ≤ 8 * (pack b).size := by have := Hr.out; omega
          obtain ⟨X, hXv⟩ : ∃ X, val (bitsAt t.data.toList (c + k) n) = X := ⟨_, rfl⟩
          obtain ⟨Y, hYv⟩ : ∃ Y, val (bitsAt (pack b).data.toList k n) = Y := ⟨_, rfl⟩
          have hwr : IntKind.i64.wrap ((c : Int) + (k : Int)) = (c : Int) + (k : Int) := IntWalk.i64_in _ ⟨by omega, by omega⟩
          have k1 : ∀ w2 : World, Calls Try.prog 36 #[.string t, .int .i64 ((c : Int) + (k : Int)), .int .i64 (n : Int)] w2 fun e w' => e = .returned (.int .u64 (X : Int)) ∧ Kit.Dr w2 w' := by
            intro w2
            rw [← hXv]
            exact take_at t _ _ (c + k) n w2 (by omega) rfl hn1 hs hcs
          have k2 : ∀ w2 : World, Calls Try.prog 36 #[.string (pack b), .int .i64 (k : Int), .int .i64 (n : Int)] w2 fun e w' => e = .returned (.int .u64 (Y : Int)) ∧ Kit.Dr w2 w' := by
            intro w2
            rw [← hYv]
            exact take_at (pack b) _ _ k n w2 rfl rfl hn1 (by omega) hks
          have hXY : X = Y ↔ bitsAt t.data.toList (c + k) n = bitsAt (enc b) k n := by
            rw [← hXv, ← hYv, pack_list]
            exact ⟨fun h => val_inj _ _ (by rw [bitsAt_len, bitsAt_len]) h, fun h => by rw [h]⟩
          have Hps := Lib.hid hps
          have HXY := Lib.hid hXY
          clear hps hXY hXv hYv hcs hks hX hsum
          by_cases he : X = Y
          · have hne : ((X : Int) != (Y : Int)) = false := by rw [bne_eq_false_iff_eq]; omega
            have He := Lib.hid he
            clear he
            go_quiet ((first | with_reducible exact Kit.q_dr (k1 _) | with_reducible exact Kit.q_dr (k2 _)))
            go_wp2
            go_roundw
            case rel =>
              refine ⟨j + 1, by congr 1; have := Hk.out; omega, by have := Hk.out; omega, ?_, Hdr.out.trans ⟨_, rfl⟩⟩
              have h1 := bitsAt_split t.data.toList c k n
              have h2 := bitsAt_split (enc b) 0 k n
              have h3 := Heq.out
              rw [show min k b.length = k by omega] at h3
              rw [show min (64 * (j + 1)) b.length = k + n by have := Hk.out; have := Hr.out; omega, h1, h2, h3, HXY.out.1 He.out, Nat.zero_add]
            case measure => simp [intOf]; have := Hk.out; omega
          · have hne : ((X : Int) != (Y : Int)) = true := by rw [bne_iff_ne]; omega
            have He := Lib.hid he
            clear he
            go_quiet ((first | with_reducible exact Kit.q_dr (k1 _) | with_reducible exact Kit.q_dr (k2 _)))
            go_wp2
            go_ret
            refine ⟨Kit.ret_bool ?_, HB.out.trans ((Hdr.out.trans ⟨_, rfl⟩).below _)⟩
            rw [Hd.out, eq_comm, decide_eq_false_iff_not]
            intro h
            refine He.out (HXY.out.2 ?_)
            have hkn : k + n ≤ b.length := by have := Hr.out; omega
            rw [bitsAt_part t.data.toList c k n b.length hkn, h]
            have := bitsAt_part (enc b) 0 k n b.length hkn
            rw [bitsAt_enc0, Nat.zero_add] at this
            exact this.symm
        · go_wp2
          go_ret
          refine ⟨Kit.ret_bool ?_, HB.out.trans (Hdr.out.below _)⟩
          have := Heq.out
          rw [show min k b.length = b.length by omega, bitsAt_enc0] at this
          rw [Hd.out, this]; simp
    · have hh : decide ((b.length : Int) ≤ 8 * (t.size : Int) - (c : Int)) = false := by simp; omega
      have hd : same t.data.toList c b = false := by
        unfold same
        rw [decide_eq_true (by omega), decide_eq_false (by simp; omega)]; rfl
      have Hh := Lib.hid hh
      have Hd := Lib.hid hd
      clear hh hd h0
      go_enter Try.func19, Try.ntmps19
      go_wp2_with fail
      refine (right_ok b _ (by omega)).mono ?_
      rintro e w1 ⟨rfl, hb1⟩
      obtain ⟨d0, d1⟩ := hc1 w1 hb1
      have hB : Below w.heap.size w w1 := ((Below.refl w.heap.size w).alloc (Nat.le_refl _) _).trans (hb1.mono (by simp))
      have HB := Lib.hid hB
      clear hb1 hB hc1
      go_wp2_with fail
      refine (has_at t c _ _ hs (by omega) (by omega)).mono ?_
      rintro e w2 ⟨rfl, rfl⟩
      rw [Hh.out]
      go_wp2
      go_ret
      exact ⟨Kit.ret_bool Hd.out.symm, HB.out⟩
end Bt
end Go.Proofs.Ytlcephckjhiggaa
