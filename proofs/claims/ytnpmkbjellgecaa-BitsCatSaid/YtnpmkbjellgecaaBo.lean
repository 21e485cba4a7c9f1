/-
  CONTRACTS of law01: pick; ref01: Of; law01: Bits.
-/
import Derived.Test.YtnpmkbjellgecaaBa
namespace Go.Proofs.Ytnpmkbjellgecaa
open Go.RowKit
namespace Bt
open Bm
set_option maxHeartbeats 400000 in
theorem pick_at (c n : Int) (w : World) (h1 : -9223372036854775808 ≤ c) (h2 : c ≤ 9223372036854775807) (hn : 1 ≤ n) (hn2 : n ≤ 9223372036854775807) :
    Calls Try.prog 10 #[.int .i64 c, .int .i64 n] w fun e w' => (∃ k : Nat, (k : Int) < n ∧ e = .returned (.int .i64 k)) ∧ w = w' := by
  by_cases hc : c < 0
  · go_enter Try.func10, Try.ntmps10
    go_wp2
    go_ret
    refine ⟨⟨((-(c + 1)).tmod n).toNat, ?_, ?_⟩, rfl⟩
    · rw [Int.tmod_eq_emod_of_nonneg (by omega), Int.toNat_of_nonneg (Int.emod_nonneg _ (by omega))]
      exact Int.emod_lt_of_pos _ (by omega)
    · refine Kit.ret_int ?_
      rw [Int.toNat_of_nonneg (by rw [Int.tmod_eq_emod_of_nonneg (by omega)]; exact Int.emod_nonneg _ (by omega)), Int.neg_tmod]
  · go_enter Try.func10, Try.ntmps10
    go_wp2
    go_ret
    refine ⟨⟨(c % n).toNat, ?_, Kit.ret_int ?_⟩, rfl⟩
    · rw [Int.toNat_of_nonneg (Int.emod_nonneg _ (by omega))]
      exact Int.emod_lt_of_pos _ (by omega)
    · rw [Int.toNat_of_nonneg (Int.emod_nonneg _ (by omega))]
/-- a bit as an int -/
def I (b : Bool) : Value := .int .i64 (b.toNat : Int)
def grp (b : List Bool) (i k : Nat) : List Bool := (List.range k).map fun j => b.getD (i + j) false
theorem grp_succ (b : List Bool) (i k : Nat) : val (grp b i (k + 1)) = 2 * val (grp b i k) + (b.getD (i + k) false).toNat := by
  unfold grp
  rw [List.range_succ, List.map_append, val_append]
  simp [val]; omega
theorem grp_lt (b : List Bool) (i k : Nat) : val (grp b i k) < 2 ^ k := by
  have := val_lt (grp b i k)
  simpa [grp] using this
theorem enc_take (b : List Bool) (q : Nat) (h : 8 * q < b.length) : (enc b).take (q + 1) = (enc b).take q ++ [UInt8.ofNat (val (grp b (8 * q) 8))] := by
  have hq : q < (enc b).length := by rw [enc_len]; omega
  rw [List.take_succ_eq_append_getElem hq]
  congr 2
  simp [enc, pk, grp]
set_option maxRecDepth 100000 in
set_option maxHeartbeats 1000000 in
theorem of_at (v : Value) (b : List Bool) (w : World) (hv : Kit.Sl w 1 v b.length (b.map I)) (hl : b.length ≤ 100000000000000) :
    Calls Try.prog 16 #[v] w fun e w' => e = .returned (bv b) ∧ Below w.heap.size w w' := by
  obtain ⟨_, ⟨rfl, hn⟩ | ⟨ad, cp, rfl, hcp, hcm, hc⟩⟩ := hv
  · have hb : b = [] := List.eq_nil_of_length_eq_zero hn
    subst hb
    go_enter Try.func16, Try.ntmps16
    go_wp2
    refine wp_loop_rounds 1 ?_
    rw [rounds_succ]
    go_wp2_with (refine Kit.wpList_to_string rfl 43 9 5 (.tmp 38) rfl Try.underlying43 Try.underlying5 Try.underlying9 (.slice none 0 0) 0 [] rfl (Kit.Sl.nil _ _) ?_)
    refine bodyPost_ret (v := bv []) (by simp [results, Try.results16, go_sem]; kernel_rfl) rfl ⟨rfl, ?_⟩
    exact (Below.refl w.heap.size w).alloc (Nat.le_refl _) _
  · obtain ⟨i0, hi, hz0, hz1, hz2⟩ := info_parts info_byte
    have Hi := Lib.hid hi
    have Hz0 := Lib.hid hz0
    have Hz1 := Lib.hid hz1
    have Hz2 := Lib.hid hz2
    clear hi hz0 hz1 hz2
    have hcell : ∀ j (h : j < b.length), ad.spot = none ∧ w.cell? ⟨ad.block, ad.off + j, none⟩ = some (I b[j]) := fun j h => hc j _ (by simp [h])
    have Hcell := Lib.hid hcell
    clear hcell hc
    unfold maxLen at hcm
    go_enter Try.func16, Try.ntmps16
    go_wp2
    obtain ⟨w1, hw1⟩ : ∃ w1, w.alloc (.cells #[.string ⟨#[]⟩, .int .i64 0] 26) = w1 := ⟨_, rfl⟩
    have hb1 : Below w.heap.size w w1 := by rw [← hw1]; exact (Below.refl _ _).alloc (Nat.le_refl _) _
    have r0 : w1.cell? ⟨w.heap.size, 0, none⟩ = some (.string ⟨#[]⟩) := by rw [← hw1, new_cell rfl]; rfl
    have r1 : w1.cell? ⟨w.heap.size, 1, none⟩ = some (.int .i64 0) := by rw [← hw1, new_cell rfl]; rfl
    have t0 : w1.frozen? ⟨w.heap.size, 0, none⟩ = false := by rw [← hw1, new_frozen rfl]
    have t1 : w1.frozen? ⟨w.heap.size, 1, none⟩ = false := by rw [← hw1, new_frozen rfl]
    have hs1 : w1.heap.size = w.heap.size + 1 := by rw [← hw1]; simp
    rw [hw1]
    have HB1 := Lib.hid hb1
    have HS1 := Lib.hid hs1
    have HR : Hid (_ ∧ _ ∧ _ ∧ _) := ⟨r0, r1, t0, t1⟩
    clear hw1 hb1 hs1 r0 r1 t0 t1
    go_loopw [3, 4, 5, 6] (fun ov iv _ _ wr => ∃ q : Nat, iv = .int .i64 ((8 * q : Nat) : Int) ∧ 8 * q < b.length + 8 ∧ wr.ownsRow w1.heap.size 5 1 ov ((enc b).take q).length (((enc b).take q).map Kit.B) ∧ Below w1.heap.size w1 wr) (fun _ iv _ _ _ => b.length + 8 - (intOf iv).toNat)
    case atStart => exact ⟨0, rfl, by omega, World.ownsRow_nil _ _ _ _, Below.refl _ _⟩
    case round =>
      obtain ⟨q, rfl, hq, hown, hbr⟩ := hrel
      obtain ⟨i, hi⟩ : ∃ i, 8 * q = i := ⟨_, rfl⟩
      rw [hi] at hq ⊢
      have Hown := Lib.hid hown
      have Hbr := Lib.hid hbr
      have HI := Lib.hid hi
      clear hown hbr hi
      by_cases hlt : i < b.length
      · have hlt2 : (i : Int) < (b.length : Int) := by omega
        go_wp2
        go_loopw [5, 6] (fun nv kv ww => ∃ k : Nat, k ≤ 8 ∧ kv = .int .i64 (k : Int) ∧ nv = .int .i64 ((val (grp b i k) : Nat) : Int) ∧ ww = wr) (fun _ kv _ => 8 - (intOf kv).toNat)
        case atStart => exact ⟨0, by omega, rfl, rfl, rfl⟩
        case round =>
          obtain ⟨k, hk, rfl, rfl, rfl⟩ := hrel
          by_cases hk8 : k < 8
          · have hk82 : (k : Int) < 8 := by omega
            obtain ⟨V, hV⟩ : ∃ V, val (grp b i k) = V := ⟨_, rfl⟩
            have hVl : V < 256 := by
              rw [← hV]
              refine Nat.lt_of_lt_of_le (grp_lt b i k) ?_
              exact Nat.pow_le_pow_right (n := 2) (by omega) hk
            have hVs := grp_succ b i k
            rw [hV] at hVs ⊢
            have HVs := Lib.hid hVs
            clear hVs hV
            by_cases hin : i + k < b.length
            · have hin2 : (i : Int) + (k : Int) < (b.length : Int) := by omega
              obtain ⟨hsp, q0⟩ := Hcell.out (i + k) hin
              obtain ⟨ab, ao, asp⟩ := ad
              simp only at hsp
              subst hsp
              have d0 : wr.cell? ⟨ab, ao + (i + k), none⟩ = some (I b[i + k]) := by
                have q1 := keep q0 HB1.out
                exact keep q1 ((Hbr.out))
              simp only [I] at d0
              have hin0 : 0 ≤ (i : Int) + (k : Int) := by omega
              have hbit : ((b[i + k]).toNat : Int) ≤ 1 := by have := Bool.toNat_le b[i + k]; omega
              have hbit0 : 0 ≤ ((b[i + k]).toNat : Int) := by omega
              go_wp2
              go_roundw
              case rel =>
                refine ⟨k + 1, by omega, by congr 1, ?_, trivial⟩
                congr 1
                rw [HVs.out, List.getD_eq_getElem?_getD, List.getElem?_eq_getElem hin, Option.getD_some]
                simp
              case measure => simp [intOf]; omega
            · have hin2 : ¬ (i : Int) + (k : Int) < (b.length : Int) := by omega
              go_wp2
              go_roundw
              case rel =>
                refine ⟨k + 1, by omega, by congr 1, ?_, trivial⟩
                congr 1
                rw [HVs.out, List.getD_eq_getElem?_getD, List.getElem?_eq_none (by omega), Option.getD_none]
                simp
              case measure => simp [intOf]; omega
          · obtain rfl : k = 8 := by omega
            obtain ⟨V, hV⟩ : ∃ V, val (grp b i 8) = V := ⟨_, rfl⟩
            have hVl : V < 256 := by rw [← hV]; exact grp_lt b i 8
            rw [hV]
            have HV := Lib.hid hV
            clear hV
            have hq' : ((enc b).take q).length = q := by
              have := HI.out
              rw [List.length_take, enc_len]; omega
            have c1 : ((enc b).take q).length + 1 ≤ maxLen := by rw [hq']; unfold maxLen; have := HI.out; omega
            have c2 : (((enc b).take q).length + 1) * 1 ≤ 140737488355328 := by rw [hq']; have := HI.out; omega
            have c5 : 1 ≤ maxLen := by unfold maxLen; omega
            have hone : ∀ u ∈ [Value.int .u8 (V : Int)], u.oneCell' = true := by simp [Value.oneCell']
            go_wp2_with (at_builtin; refine Kit.wpList_append_any rfl (.tmp 33) (.tmp 36) 43 rfl w1.heap.size 5 i0 (.int .u8 0) 1 1 Try.underlying43 Hi.out Hz0.out Hz1.out Hz2.out rfl (by decide) u3 _ _ rfl (Hown.out.alloc _) _ 1 [.int .u8 (V : Int)] rfl (Kit.Sl.lit _ #[.int .u8 (V : Int)] 5 1 1 rfl c5) hone c1 c2 (Kit.le_alloc Hbr.out.size _) ?_; intro v3 w3 hown3 hg3)
            have hb3 : Below w1.heap.size wr w3 := ((Below.refl w1.heap.size wr).alloc Hbr.out.size _).trans ((Below.refl _ _).grown hg3 (Kit.le_alloc Hbr.out.size _) (fun j e => (Hown.out.lt j e).1))
            have he := enc_take b q (by have := HI.out; omega)
            rw [show 8 * q = i from HI.out, HV.out] at he
            go_roundw
            case rel =>
              refine ⟨q + 1, by congr 1; have := HI.out; omega, by have := HI.out; omega, ?_, Hbr.out.trans hb3⟩
              have e2 : ((enc b).take (q + 1)).length = ((enc b).take q).length + 1 := by rw [he, List.length_append]; rfl
              have e3 : ((enc b).take (q + 1)).map Kit.B = ((enc b).take q).map Kit.B ++ [.int .u8 (V : Int)] := by
                rw [he, List.map_append]
                congr 1
                simp [Kit.B, Nat.mod_eq_of_lt hVl]
              rw [e2, e3]; exact hown3
            case measure => simp [intOf]; have := HI.out; omega
      · have hall : (enc b).take q = enc b := List.take_of_length_le (by rw [enc_len]; have := HI.out; omega)
        rw [hall] at Hown
        have hlt2 : ¬ (i : Int) < (b.length : Int) := by omega
        obtain ⟨q0, q1, q2, q3⟩ := HR.out
        have s0 := keep q0 Hbr.out
        have s1 := keep q1 Hbr.out
        have hlt3 : w.heap.size < w1.heap.size := by rw [HS1.out]; omega
        have p0 := (Hbr.out.frozen (p := ⟨w.heap.size, 0, none⟩) hlt3).trans q2
        have p1 := (Hbr.out.frozen (p := ⟨w.heap.size, 1, none⟩) hlt3).trans q3
        clear q0 q1 q2 q3 hlt3
        go_wp2_with (refine Kit.wpList_to_string rfl 43 9 5 (.tmp 38) rfl Try.underlying43 Try.underlying5 Try.underlying9 u3 _ (enc b) rfl (Kit.Sl.own Hown.out) ?_)
        refine bodyPost_ret (v := bv b) (by simp [results, Try.results16, go_sem, s0, s1]; rfl) rfl ⟨rfl, ?_⟩
        exact ((HB1.out.trans (Hbr.out.mono (by rw [HS1.out]; omega))).setCell (p := ⟨w.heap.size, 0, none⟩) (Nat.le_refl _) _).setCell (p := ⟨w.heap.size, 1, none⟩) (Nat.le_refl _) _
end Bt
end Go.Proofs.Ytnpmkbjellgecaa
