/-
  CONTRACTS of package bits: Cat.
-/
import Derived.Test.YtabhnnighhglfaaBg
namespace Go.Proofs.Ytabhnnighhglfaa
open Go.RowKit
namespace Bt
open Bm
/-- a slice of bits, right or not, in blocks below B -/
def Bl (w : World) (B : Nat) (v : Value) (l : List (ByteArray × Int)) : Prop :=
  (∃ q c, v = .slice q 0 c ∧ l = []) ∨ ∃ lb lo cap, v = .slice (some ⟨lb, lo, none⟩) l.length cap ∧ lb < B ∧ l.length ≤ cap ∧ cap ≤ maxLen ∧
    ∀ i (h : i < l.length), w.cell? ⟨lb, lo + i * 2, none⟩ = some (.string l[i].1) ∧ w.cell? ⟨lb, lo + i * 2 + 1, none⟩ = some (.int .i64 l[i].2)
theorem Bl.slice {w : World} {B : Nat} {v : Value} {l : List (ByteArray × Int)} (h : Bl w B v l) : ∃ p n c, v = .slice p n c := by
  rcases h with ⟨_, _, h, _⟩ | ⟨lb, lo, cap, h, _⟩
  · exact ⟨_, _, _, h⟩
  · exact ⟨_, _, _, h⟩
def both (b : List Bool) : ByteArray × Int := (pack b, (b.length : Int))
theorem flat_le (bs : List (List Bool)) (i : Nat) : (bs.take i).flatten.length ≤ bs.flatten.length := by
  conv => rhs; rw [← List.take_append_drop i bs]
  rw [List.flatten_append, List.length_append]; omega
theorem flat_succ (bs : List (List Bool)) (i : Nat) (h : i < bs.length) : (bs.take (i + 1)).flatten = (bs.take i).flatten ++ bs[i] := by
  rw [List.take_succ_eq_append_getElem h, List.flatten_append]; simp
set_option maxRecDepth 100000 in
set_option maxHeartbeats 1000000 in
theorem cat1_ok (rb base pl : Nat) (bs : List (List Bool)) (s v : Value) (w : World) (hR : RowAt w rb base [] s) (_hp : pl < base ∧ pl ≠ rb) (cl : w.cell? ⟨pl, 0, none⟩ = some v) (hv : Bl w rb v (bs.map both)) (hl : bs.flatten.length ≤ 100000000000000) :
    Calls Try.prog 31 #[.pointer (some ⟨rb, 0, none⟩), .pointer (some ⟨pl, 0, none⟩)] w fun e w' =>
      e = .returned (.tuple #[]) ∧ (∃ s', RowAt w' rb base bs.flatten s') ∧ Kept rb base w w' := by
  rcases hv with ⟨_, _, rfl, hnil⟩ | ⟨lb, lo, cap, rfl, hlb, hcap, hcm, hcells⟩
  · have hn : bs = [] := by simpa using hnil
    subst hn
    go_enter Try.func31, Try.ntmps31
    go_wp2
    refine wp_loop_rounds 1 ?_
    rw [rounds_succ]
    go_wp2
    go_end0
    exact ⟨rfl, ⟨s, by simpa using hR⟩, Kept.refl hR.lt _⟩
  · rw [List.length_map] at hcap cl
    have Hcells := Lib.hid hcells
    have HR := Lib.hid hR
    have hlt := hR.lt
    clear hcells hR
    unfold maxLen at hcm
    go_enter Try.func31, Try.ntmps31
    go_wp2
    go_loopw [4, 7] (fun _ iv wr => ∃ i : Nat, i ≤ bs.length ∧ iv = .int .i64 (i : Int) ∧ (∃ s', RowAt wr rb base (bs.take i).flatten s') ∧ Kept rb base w wr) (fun _ iv _ => bs.length - (intOf iv).toNat)
    case atStart => exact ⟨0, by omega, rfl, ⟨s, by simpa using HR.out⟩, Kept.refl hlt _⟩
    case round =>
      obtain ⟨i, hi, rfl, ⟨s', hr⟩, hk⟩ := hrel
      by_cases hil : i < bs.length
      · obtain ⟨q0, q1⟩ := Hcells.out i (by simpa using hil)
        rw [List.getElem_map] at q0 q1
        have d0 := (hk.cell (p := ⟨lb, lo + i * 2, none⟩) (by simp; omega) (.inl (by simp; omega))).trans q0
        have d1 := (hk.cell (p := ⟨lb, lo + i * 2 + 1, none⟩) (by simp; omega) (.inl (by simp; omega))).trans q1
        simp only [both] at d0 d1
        have Hr := Lib.hid hr
        have Hk := Lib.hid hk
        clear hr hk q0 q1
        have hi2 : (i : Int) < (bs.length : Int) := by omega
        go_wp2_with fail
        have hr2 : RowAt (wr.alloc (.cells #[.string (pack bs[i]), .int .i64 (bs[i].length : Int)] 37)) rb base (bs.take i).flatten s' := Hr.out.below ((Below.refl _ _).alloc (Nat.le_refl _) _)
        have hfl := flat_le bs (i + 1)
        rw [flat_succ bs i hil, List.length_append] at hfl
        refine (join_at rb base (bs.take i).flatten bs[i] s' _ hr2 (by omega)).mono ?_
        rintro e w3 ⟨rfl, ⟨s3, hr3⟩, hk3⟩
        rw [← flat_succ bs i hil] at hr3
        have Hr3 := Lib.hid hr3
        have Hk3 : Hid (Kept rb base w w3) := (Hk.out.full Hr.out.le ((Below.refl _ _).alloc (Nat.le_refl _) _)).trans hk3
        clear hr2 hfl hr3 hk3
        go_wp2
        go_roundw
        case rel => exact ⟨i + 1, by omega, by congr 1, ⟨s3, Hr3.out⟩, Hk3.out⟩
        case measure => simp [intOf]; omega
      · obtain rfl : i = bs.length := by omega
        have Hr := Lib.hid hr
        have Hk := Lib.hid hk
        clear hr hk
        go_wp2
        go_end0
        exact ⟨rfl, ⟨s', by simpa using Hr.out⟩, Hk.out⟩
set_option maxRecDepth 100000 in
set_option maxHeartbeats 1000000 in
theorem cat1_no (rb base pl : Nat) (bs : List (List Bool)) (t : ByteArray) (m : Int) (rest : List (ByteArray × Int)) (s v : Value) (w : World) (hR : RowAt w rb base [] s) (_hp : pl < base ∧ pl ≠ rb) (cl : w.cell? ⟨pl, 0, none⟩ = some v) (hv : Bl w rb v (bs.map both ++ (t, m) :: rest)) (hl : bs.flatten.length ≤ 100000000000000)
    (hr0 : right t.data.toList m = false) (hs : t.size * 8 ≤ 9223372036854775807) (hm1 : -9223372036854775808 ≤ m) (hm2 : m ≤ 9223372036854775807) :
    Calls Try.prog 31 #[.pointer (some ⟨rb, 0, none⟩), .pointer (some ⟨pl, 0, none⟩)] w fun e w' => e = .panicked (up 1) ∧ Kept rb base w w' := by
  rcases hv with ⟨_, _, rfl, hnil⟩ | ⟨lb, lo, cap, rfl, hlb, hcap, hcm, hcells⟩
  · simp at hnil
  · obtain ⟨len, hlen⟩ : ∃ len, (bs.map both ++ (t, m) :: rest).length = len := ⟨_, rfl⟩
    have hbl : bs.length < len := by rw [← hlen]; simp
    rw [hlen] at hcap cl
    have Hcells := Lib.hid hcells
    have HR := Lib.hid hR
    have hlt := hR.lt
    have Hlen := Lib.hid hlen
    clear hcells hR hlen
    unfold maxLen at hcm
    go_enter Try.func31, Try.ntmps31
    go_wp2
    go_loopw [4, 7] (fun _ iv wr => ∃ i : Nat, i ≤ bs.length ∧ iv = .int .i64 (i : Int) ∧ (∃ s', RowAt wr rb base (bs.take i).flatten s') ∧ Kept rb base w wr) (fun _ iv _ => bs.length - (intOf iv).toNat)
    case atStart => exact ⟨0, by omega, rfl, ⟨s, by simpa using HR.out⟩, Kept.refl hlt _⟩
    case round =>
      obtain ⟨i, hi, rfl, ⟨s', hr⟩, hk⟩ := hrel
      have hi2 : (i : Int) < (len : Int) := by omega
      obtain ⟨q0, q1⟩ := Hcells.out i (by rw [Hlen.out]; omega)
      by_cases hil : i < bs.length
      · rw [List.getElem_append_left (by simpa using hil), List.getElem_map] at q0 q1
        have d0 := (hk.cell (p := ⟨lb, lo + i * 2, none⟩) (by simp; omega) (.inl (by simp; omega))).trans q0
        have d1 := (hk.cell (p := ⟨lb, lo + i * 2 + 1, none⟩) (by simp; omega) (.inl (by simp; omega))).trans q1
        simp only [both] at d0 d1
        have Hr := Lib.hid hr
        have Hk := Lib.hid hk
        clear hr hk q0 q1
        go_wp2_with fail
        have hr2 : RowAt (wr.alloc (.cells #[.string (pack bs[i]), .int .i64 (bs[i].length : Int)] 37)) rb base (bs.take i).flatten s' := Hr.out.below ((Below.refl _ _).alloc (Nat.le_refl _) _)
        have hfl := flat_le bs (i + 1)
        rw [flat_succ bs i hil, List.length_append] at hfl
        refine (join_at rb base (bs.take i).flatten bs[i] s' _ hr2 (by omega)).mono ?_
        rintro e w3 ⟨rfl, ⟨s3, hr3⟩, hk3⟩
        rw [← flat_succ bs i hil] at hr3
        have Hr3 := Lib.hid hr3
        have Hk3 : Hid (Kept rb base w w3) := (Hk.out.full Hr.out.le ((Below.refl _ _).alloc (Nat.le_refl _) _)).trans hk3
        clear hr2 hfl hr3 hk3
        go_wp2
        go_roundw
        case rel => exact ⟨i + 1, by omega, by congr 1, ⟨s3, Hr3.out⟩, Hk3.out⟩
        case measure => simp [intOf]; omega
      · have hib : i = bs.length := by omega
        have hget : ∀ h, (bs.map both ++ (t, m) :: rest)[i]'h = (t, m) := by
          intro h
          rw [List.getElem_append_right (by simp; omega)]
          simp [hib]
        rw [hget] at q0 q1
        have d0 := (hk.cell (p := ⟨lb, lo + i * 2, none⟩) (by simp; omega) (.inl (by simp; omega))).trans q0
        have d1 := (hk.cell (p := ⟨lb, lo + i * 2 + 1, none⟩) (by simp; omega) (.inl (by simp; omega))).trans q1
        simp only at d0 d1
        have Hr := Lib.hid hr
        have Hk := Lib.hid hk
        clear hr hk q0 q1 hget hib
        go_wp2_with fail
        refine (join_no _ t m _ hr0 hs hm1 hm2).mono ?_
        rintro e w3 ⟨rfl, hb3⟩
        have Hk3 : Hid (Kept rb base w w3) := (Hk.out.full Hr.out.le ((Below.refl _ _).alloc (Nat.le_refl _) _)).full (Kit.le_alloc Hr.out.le _) hb3
        clear hb3
        go_wp2
        exact ⟨rfl, rfl, Hk3.out⟩
def cw (v : Value) (w : World) : World := (w.alloc (.cells #[v] 58)).alloc (.cells #[.string ⟨#[]⟩, .int .i64 0] 37)
theorem cw_size (v : Value) (w : World) : (cw v w).heap.size = w.heap.size + 2 := by simp [cw]
theorem cw_below (v : Value) (w : World) : Below w.heap.size w (cw v w) := ((Below.refl w.heap.size w).alloc (Nat.le_refl _) _).alloc (by simp) _
theorem made_gw_below (f : Value) (w : World) : Below w.heap.size w (made (gw f w)) := (gw_below f w).alloc (by rw [gw_size]; omega) _
theorem Bl.below {w w' : World} {B B' : Nat} {v : Value} {l : List (ByteArray × Int)} (h : Bl w B v l) (hB : B ≤ B') (hb : Below B w w') : Bl w' B' v l := by
  rcases h with h | ⟨lb, lo, cap, h1, h2, h3, h4, h5⟩
  · exact .inl h
  · refine .inr ⟨lb, lo, cap, h1, by omega, h3, h4, fun i hi => ?_⟩
    rw [hb.cell (p := ⟨lb, lo + i * 2, none⟩) h2, hb.cell (p := ⟨lb, lo + i * 2 + 1, none⟩) h2]
    exact h5 i hi
set_option maxRecDepth 100000 in
set_option maxHeartbeats 1000000 in
theorem cat_frame (v : Value) (x : Int) (u0 u1 : Value) (w : World)
    (hg : Calls Try.prog 26 #[.func (.func 31) #[] #[.pointer (some ⟨w.heap.size, 0, none⟩)]] (cw v w) fun e w' => e = .returned (.tuple #[.agg #[u0, u1], .int .i64 x]) ∧ Below (cw v w).heap.size (cw v w) w')
    (hu0 : ∃ t', u0 = .string t') (hu1 : ∃ n', u1 = .int .i64 n') (hsl : ∃ p n c, v = .slice p n c) :
    Calls Try.prog 20 #[v] w fun e w' => e = .returned (.tuple #[.agg #[u0, u1], .int .i64 x]) ∧ Below w.heap.size w w' := by
  have hmf : ∀ (fn : Fn) (first cap : Array Value) (w : World), (Instr.makeFunc fn first cap).run Try.prog w = .ok (.func fn first cap) w := fun _ _ _ _ => rfl
  obtain ⟨t', rfl⟩ := hu0
  obtain ⟨n', rfl⟩ := hu1
  obtain ⟨p, n, c, rfl⟩ := hsl
  have Hg := Lib.hid hg
  clear hg
  go_enter Try.func20, Try.ntmps20
  go_wp2_with fail
  refine Hg.out.mono ?_
  rintro e w1 ⟨rfl, hb⟩
  rw [cw_size] at hb
  have a0 : w1.cell? ⟨w.heap.size + 1, 0, none⟩ = some (.string ⟨#[]⟩) := by rw [hb.cell (by simp), cw, new_cell (by simp)]; rfl
  have a1 : w1.cell? ⟨w.heap.size + 1, 1, none⟩ = some (.int .i64 0) := by rw [hb.cell (by simp), cw, new_cell (by simp)]; rfl
  have f0 : w1.frozen? ⟨w.heap.size + 1, 0, none⟩ = false := by rw [hb.frozen (by simp), cw, new_frozen (by simp)]
  have f1 : w1.frozen? ⟨w.heap.size + 1, 1, none⟩ = false := by rw [hb.frozen (by simp), cw, new_frozen (by simp)]
  have hB : Below w.heap.size w w1 := (cw_below (.slice p n c) w).trans (hb.mono (by omega))
  have HB := Lib.hid hB
  clear hB hb Hg
  go_wp2
  refine bodyPost_ret (v := .tuple #[.agg #[.string t', .int .i64 n'], .int .i64 x]) (by simp [results, Try.results20, go_sem, a0, a1]) rfl ⟨rfl, ?_⟩
  exact (HB.out.setCell (p := ⟨w.heap.size + 1, 0, none⟩) (by simp) _).setCell (p := ⟨w.heap.size + 1, 1, none⟩) (by simp) _
theorem cw_cell (f v : Value) (w : World) : (made (gw f (cw v w))).cell? ⟨w.heap.size, 0, none⟩ = some v := by
  rw [(made_gw_below f (cw v w)).cell (by rw [cw_size]; simp), cw, old_cell (by simp), new_cell rfl]; rfl
theorem cat_ok (v : Value) (bs : List (List Bool)) (w : World) (hv : Bl w w.heap.size v (bs.map both)) (hl : bs.flatten.length ≤ 100000000000000) :
    Calls Try.prog 20 #[v] w fun e w' => e = .returned (.tuple #[bv bs.flatten, .int .i64 0]) ∧ Below w.heap.size w w' := by
  have hz := cw_size v w
  refine cat_frame v 0 _ _ w (grown_ok 31 _ bs.flatten _ (fun _ _ => by kernel_rfl) ?_) ⟨_, rfl⟩ ⟨_, rfl⟩ hv.slice
  refine cat1_ok _ _ w.heap.size bs _ v _ (gw_row _ _) (by omega) (cw_cell _ v w) ?_ hl
  exact hv.below (by omega) ((cw_below v w).trans ((made_gw_below _ _).mono (by omega)))
theorem cat_no (v : Value) (bs : List (List Bool)) (t : ByteArray) (m : Int) (rest : List (ByteArray × Int)) (w : World) (hv : Bl w w.heap.size v (bs.map both ++ (t, m) :: rest)) (hl : bs.flatten.length ≤ 100000000000000)
    (hr0 : right t.data.toList m = false) (hs : t.size * 8 ≤ 9223372036854775807) (hm1 : -9223372036854775808 ≤ m) (hm2 : m ≤ 9223372036854775807) :
    Calls Try.prog 20 #[v] w fun e w' => e = .returned (.tuple #[noBits, .int .i64 1]) ∧ Below w.heap.size w w' := by
  have hz := cw_size v w
  refine cat_frame v 1 _ _ w (grown_up 31 _ 1 _ (.inl rfl) (fun _ _ => by kernel_rfl) ?_) ⟨_, rfl⟩ ⟨_, rfl⟩ hv.slice
  refine cat1_no _ _ w.heap.size bs t m rest _ v _ (gw_row _ _) (by omega) (cw_cell _ v w) ?_ hl hr0 hs hm1 hm2
  exact hv.below (by omega) ((cw_below v w).trans ((made_gw_below _ _).mono (by omega)))
end Bt
end Go.Proofs.Ytabhnnighhglfaa
