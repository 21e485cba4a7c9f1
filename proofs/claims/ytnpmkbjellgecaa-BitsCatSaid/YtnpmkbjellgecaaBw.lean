/-
  CONTRACT of law01.Bits.
-/
import Derived.Test.YtnpmkbjellgecaaBo
namespace Go.Proofs.Ytnpmkbjellgecaa
open Go.RowKit
namespace Bt
open Bm
theorem info_int : (Try.prog.info? 3).map (fun i => (i.zero, i.size, i.bytes)) = some (some (.int .i64 0), 1, 8) := by kernel_rfl
theorem bit_of (k : Nat) (h : (k : Int) < 2) : ∃ b : Bool, .int .i64 (k : Int) = I b := by
  have : k = 0 ∨ k = 1 := by omega
  rcases this with rfl | rfl
  · exact ⟨false, rfl⟩
  · exact ⟨true, rfl⟩
set_option maxRecDepth 100000 in
set_option maxHeartbeats 1000000 in
theorem lawbits_at (v : Value) (n : Nat) (z : List Int) (most : Nat) (w : World) (hv : Kit.Sl w 1 v n (z.map (Value.int .i64))) (hz : ∀ x ∈ z, -9223372036854775808 ≤ x ∧ x ≤ 9223372036854775807) (hm : most ≤ 1000) :
    Calls Try.prog 9 #[v, .int .i64 (most : Int)] w fun e w' => (∃ b : List Bool, b.length ≤ most ∧ e = .returned (bv b)) ∧ Below w.heap.size w w' := by
  obtain ⟨i0, hi, hz0, hz1, hz2⟩ := info_parts info_int
  have Hi := Lib.hid hi
  have Hz0 := Lib.hid hz0
  have Hz1 := Lib.hid hz1
  have Hz2 := Lib.hid hz2
  clear hi hz0 hz1 hz2
  obtain ⟨hzl, ⟨rfl, hn⟩ | ⟨ad, cp, rfl, hcp, hcm, hc⟩⟩ := hv
  · go_enter Try.func9, Try.ntmps9
    go_wp2
    refine wp_loop_rounds 1 ?_
    rw [rounds_succ]
    go_wp2_with fail
    refine (of_at (.slice none 0 0) [] _ (Kit.Sl.nil _ _) (by simp)).mono ?_
    rintro e w2 ⟨rfl, hb2⟩
    have s0 : w2.cell? ⟨w.heap.size, 0, none⟩ = some (.string ⟨#[]⟩) := by rw [hb2.cell (by simp), new_cell rfl]; rfl
    have s1 : w2.cell? ⟨w.heap.size, 1, none⟩ = some (.int .i64 0) := by rw [hb2.cell (by simp), new_cell rfl]; rfl
    have p0 : w2.frozen? ⟨w.heap.size, 0, none⟩ = false := by rw [hb2.frozen (by simp), new_frozen rfl]
    have p1 : w2.frozen? ⟨w.heap.size, 1, none⟩ = false := by rw [hb2.frozen (by simp), new_frozen rfl]
    have HB2 : Hid (Below w.heap.size w w2) := ((Below.refl w.heap.size w).alloc (Nat.le_refl _) _).trans (hb2.mono (by simp))
    clear hb2
    unfold bv
    go_wp2
    refine bodyPost_ret (v := bv []) (by simp [results, Try.results9, go_sem, s0, s1]; rfl) rfl ⟨⟨[], by simp, rfl⟩, ?_⟩
    exact (HB2.out.setCell (p := ⟨w.heap.size, 0, none⟩) (Nat.le_refl _) _).setCell (p := ⟨w.heap.size, 1, none⟩) (Nat.le_refl _) _
  · have hcell : ∀ j (h : j < z.length), ad.spot = none ∧ w.cell? ⟨ad.block, ad.off + j, none⟩ = some (.int .i64 z[j]) := fun j h => hc j _ (by simp [h])
    have hzn : z.length = n := by simpa using hzl
    subst hzn
    have Hcell := Lib.hid hcell
    clear hcell hc hzl
    unfold maxLen at hcm
    go_enter Try.func9, Try.ntmps9
    go_wp2
    obtain ⟨w1, hw1⟩ : ∃ w1, w.alloc (.cells #[.string ⟨#[]⟩, .int .i64 0] 26) = w1 := ⟨_, rfl⟩
    have hb1 : Below w.heap.size w w1 := by rw [← hw1]; exact (Below.refl _ _).alloc (Nat.le_refl _) _
    have r0 : w1.cell? ⟨w.heap.size, 0, none⟩ = some (.string ⟨#[]⟩) := by rw [← hw1, new_cell rfl]; rfl
    have r1 : w1.cell? ⟨w.heap.size, 1, none⟩ = some (.int .i64 0) := by rw [← hw1, new_cell rfl]; rfl
    have t0 : w1.frozen? ⟨w.heap.size, 0, none⟩ = false := by rw [← hw1, new_frozen rfl]
    have t1 : w1.frozen? ⟨w.heap.size, 1, none⟩ = false := by rw [← hw1, new_frozen rfl]
    have hs1 : w1.heap.size = w.heap.size + 1 := by rw [← hw1]; simp
    rw [hw1]
    have HB1 := Lib.hid hb1
    have HS1 := Lib.hid hs1
    have HR : Hid (_ ∧ _ ∧ _ ∧ _) := ⟨r0, r1, t0, t1⟩
    clear hw1 hb1 hs1 r0 r1 t0 t1
    go_loopw [5, 6] (fun ov iv wr => ∃ i : Nat, iv = .int .i64 (i : Int) ∧ i ≤ z.length ∧ i ≤ most ∧ (∃ b : List Bool, b.length = i ∧ wr.ownsRow w1.heap.size 3 1 ov i (b.map I)) ∧ Below w1.heap.size w1 wr) (fun _ iv _ => most - (intOf iv).toNat)
    case atStart => exact ⟨0, rfl, by omega, by omega, ⟨[], rfl, World.ownsRow_nil _ _ _ _⟩, Below.refl _ _⟩
    case round =>
      obtain ⟨i, rfl, hiz, him, ⟨b, hbl, hown⟩, hbr⟩ := hrel
      have Hown := Lib.hid hown
      have Hbr := Lib.hid hbr
      have Hbl := Lib.hid hbl
      clear hown hbr hbl
      by_cases hlt : i < z.length
      · by_cases hlm : i < most
        · have hd1 : decide ((i : Int) < (z.length : Int)) = true := by simp; omega
          have hd2 : decide ((i : Int) < (most : Int)) = true := by simp; omega
          have hd3 : (i : Int) < (z.length : Int) := by omega
          obtain ⟨hsp, q0⟩ := Hcell.out i hlt
          obtain ⟨ab, ao, asp⟩ := ad
          simp only at hsp
          subst hsp
          have d0 : wr.cell? ⟨ab, ao + i, none⟩ = some (.int .i64 z[i]) := keep (keep q0 HB1.out) Hbr.out
          obtain ⟨y1, y2⟩ := hz z[i] (List.getElem_mem _)
          obtain ⟨y, hy⟩ : ∃ y, z[i] = y := ⟨_, rfl⟩
          rw [hy] at d0 y1 y2
          clear hy q0
          go_wp2_with fail
          refine (pick_at y 2 _ y1 y2 (by omega) (by omega)).mono ?_
          rintro e w3 ⟨⟨k, hk2, rfl⟩, rfl⟩
          obtain ⟨x, hx⟩ := bit_of k hk2
          have c1 : i + 1 ≤ maxLen := by unfold maxLen; omega
          have c2 : (i + 1) * 8 ≤ 140737488355328 := by omega
          have c5 : 1 ≤ maxLen := by unfold maxLen; omega
          have hone : ∀ u ∈ [Value.int .i64 (k : Int)], u.oneCell' = true := by simp [Value.oneCell']
          have HX := Lib.hid hx
          clear hx
          go_wp2_with (at_builtin; refine Kit.wpList_append_any rfl (.tmp 18) (.tmp 24) 22 rfl w1.heap.size 3 i0 (.int .i64 0) 1 8 Try.underlying22 Hi.out Hz0.out Hz1.out Hz2.out rfl (by decide) u5 _ _ rfl (Hown.out.alloc _) _ 1 [.int .i64 (k : Int)] rfl (Kit.Sl.lit _ #[.int .i64 (k : Int)] 3 1 1 rfl c5) hone c1 c2 (Kit.le_alloc Hbr.out.size _) ?_; intro v3 w3 hown3 hg3)
          have hb3 : Below w1.heap.size wr w3 := ((Below.refl w1.heap.size wr).alloc Hbr.out.size _).trans ((Below.refl _ _).grown hg3 (Kit.le_alloc Hbr.out.size _) (fun j e => (Hown.out.lt j e).1))
          go_roundw
          case rel =>
            refine ⟨i + 1, by congr 1, by omega, by omega, ⟨b ++ [x], by simp [Hbl.out], ?_⟩, Hbr.out.trans hb3⟩
            rw [List.map_append, List.map_cons, List.map_nil, ← HX.out]; exact hown3
          case measure => simp [intOf]; omega
        · have hd1 : decide ((i : Int) < (z.length : Int)) = true := by simp; omega
          have hd2 : decide ((i : Int) < (most : Int)) = false := by simp; omega
          go_wp2_with fail
          refine (of_at u5 b wr (by rw [Hbl.out]; exact Kit.Sl.own Hown.out) (by have := Hbl.out; omega)).mono ?_
          rintro e w2 ⟨rfl, hb2⟩
          obtain ⟨q0, q1, q2, q3⟩ := HR.out
          have hlt3 : w.heap.size < w1.heap.size := by rw [HS1.out]; omega
          have hlt4 : w.heap.size < wr.heap.size := Nat.lt_of_lt_of_le hlt3 Hbr.out.size
          have s0 := keep (keep q0 Hbr.out) hb2
          have s1 := keep (keep q1 Hbr.out) hb2
          have p0 := (hb2.frozen (p := ⟨w.heap.size, 0, none⟩) hlt4).trans ((Hbr.out.frozen (p := ⟨w.heap.size, 0, none⟩) hlt3).trans q2)
          have p1 := (hb2.frozen (p := ⟨w.heap.size, 1, none⟩) hlt4).trans ((Hbr.out.frozen (p := ⟨w.heap.size, 1, none⟩) hlt3).trans q3)
          have HB2 : Hid (Below w.heap.size w w2) := (HB1.out.trans (Hbr.out.mono (by rw [HS1.out]; omega))).trans (hb2.mono (by omega))
          clear q0 q1 q2 q3 hlt3 hlt4 hb2
          unfold bv
          go_wp2
          refine bodyPost_ret (v := bv b) (by simp [results, Try.results9, go_sem, s0, s1]; rfl) rfl ⟨⟨b, by have := Hbl.out; omega, rfl⟩, ?_⟩
          exact (HB2.out.setCell (p := ⟨w.heap.size, 0, none⟩) (Nat.le_refl _) _).setCell (p := ⟨w.heap.size, 1, none⟩) (Nat.le_refl _) _
      · have hd1 : decide ((i : Int) < (z.length : Int)) = false := by simp; omega
        go_wp2_with fail
        refine (of_at u5 b wr (by rw [Hbl.out]; exact Kit.Sl.own Hown.out) (by have := Hbl.out; omega)).mono ?_
        rintro e w2 ⟨rfl, hb2⟩
        obtain ⟨q0, q1, q2, q3⟩ := HR.out
        have hlt3 : w.heap.size < w1.heap.size := by rw [HS1.out]; omega
        have hlt4 : w.heap.size < wr.heap.size := Nat.lt_of_lt_of_le hlt3 Hbr.out.size
        have s0 := keep (keep q0 Hbr.out) hb2
        have s1 := keep (keep q1 Hbr.out) hb2
        have p0 := (hb2.frozen (p := ⟨w.heap.size, 0, none⟩) hlt4).trans ((Hbr.out.frozen (p := ⟨w.heap.size, 0, none⟩) hlt3).trans q2)
        have p1 := (hb2.frozen (p := ⟨w.heap.size, 1, none⟩) hlt4).trans ((Hbr.out.frozen (p := ⟨w.heap.size, 1, none⟩) hlt3).trans q3)
        have HB2 : Hid (Below w.heap.size w w2) := (HB1.out.trans (Hbr.out.mono (by rw [HS1.out]; omega))).trans (hb2.mono (by omega))
        clear q0 q1 q2 q3 hlt3 hlt4 hb2
        unfold bv
        go_wp2
        refine bodyPost_ret (v := bv b) (by simp [results, Try.results9, go_sem, s0, s1]; rfl) rfl ⟨⟨b, by have := Hbl.out; omega, rfl⟩, ?_⟩
        exact (HB2.out.setCell (p := ⟨w.heap.size, 0, none⟩) (Nat.le_refl _) _).setCell (p := ⟨w.heap.size, 1, none⟩) (Nat.le_refl _) _
end Bt
end Go.Proofs.Ytnpmkbjellgecaa
