/-
  WALKS of stage 5: two texts, one behind the other.
-/
import Derived.Test.YtilljaaolejedaaRows
import Derived.Test.YtilljaaolejedaaAbq
import Derived.Test.YtilljaaolejedaaCm
import Derived.Test.YtilljaaolejedaaFa
import Derived.Test.YtilljaaolejedaaFb
import Derived.Test.YtilljaaolejedaaFc
import Derived.Test.YtilljaaolejedaaFq
import Derived.Test.YtilljaaolejedaaFe
import Derived.Test.YtilljaaolejedaaFm
namespace Go.Proofs.Ytilljaaolejedaa
open Go.RowKit
namespace Fh
open Ab Cm Fa Fb Fc Fq Fe Fm
theorem ti3 : TI Try.prog 3 1 8 := .mk' (z := (Value.int .i64 0)) (by kernel_rfl) rfl
structure Parts (a s : ByteArray) (K : Nat) (b c : ByteArray) (all one two : List Int) : Prop where
  aft1 : afterV a (s.extract 0 K) = (b, 0)
  frA : frontV a s = (all, 0)
  fr1 : frontV a (s.extract 0 K) = (one, 0)
  fr2 : frontV b (s.extract K s.size) = (two, 0)
  aft2 : afterV b (s.extract K s.size) = (c, 0)
  aftA : afterV a s = (c, 0)
  right : RightP b
  bsz : b.size = a.size
  each : ∀ x : Nat, x < a.size → (frontV b (a.extract x (x + 1))).2 = 0
  cut : all = one ++ two
  l1 : one.length = K
  l2 : two.length = s.size - K
  first : 0 < K → bat b 0 = bat s ((K - 1 : Nat) : Int)
theorem parts {a s : ByteArray} (hR : RightP a) (hin : inA a.data.toList s) {K : Nat} (hK : K ≤ s.size) :
    Parts a s K (frS a s K) (frS a s s.size) (plL a.data.toList s s.size) (plL a.data.toList s K) (plL (frL a.data.toList s K) (s.extract K s.size) (s.size - K)) := by
  have hp := frL_perm (l := a.data.toList) (s := s) K (fun j hj => hin j (by omega))
  have hb1 : ∀ j : Nat, j < K → bat (s.extract 0 K) (j : Int) = bat s (j : Int) := fun j hj => by rw [bat_extract s 0 K j (by omega) hK, Nat.zero_add]
  have hb2 : ∀ j : Nat, j < s.size - K → bat (s.extract K s.size) (j : Int) = bat s ((K + j : Nat) : Int) := fun j hj => bat_extract s K s.size j (by omega) (Nat.le_refl _)
  have z1 : (s.extract 0 K).size = K := by rw [ByteArray.size_extract]; omega
  have z2 : (s.extract K s.size).size = s.size - K := by rw [ByteArray.size_extract]; omega
  have in1 : inA a.data.toList (s.extract 0 K) := fun j hj => by rw [hb1 j (by omega)]; exact hin j (by omega)
  have in2 : inA (frS a s K).data.toList (s.extract K s.size) := fun j hj => by rw [hb2 j (by omega)]; exact hp.mem_iff.2 (hin _ (by omega))
  have c1 := fr_congr (l := a.data.toList) K hb1
  have c2 := fr_split (l := a.data.toList) K (s.size - K) hb2
  rw [show K + (s.size - K) = s.size by omega] at c2
  have hRB : RightP (frS a s K) := nodup_right (hp.nodup_iff.2 (right_nodup hR))
  have hbz : (frS a s K).size = a.size := hp.length_eq
  exact {
    aft1 := by rw [after_in hR in1, z1]; unfold frS; rw [c1.1]
    frA := front_in hR hin
    fr1 := by rw [front_in hR in1, z1, c1.2]
    fr2 := by rw [front_in hRB in2, z2]; rfl
    aft2 := by
      rw [after_in hRB in2, z2]
      show (ByteArray.mk (frL (frL a.data.toList s K) (s.extract K s.size) (s.size - K)).toArray, (0 : Int)) = _
      rw [← c2.1]; rfl
    aftA := after_in hR hin
    right := hRB
    bsz := hbz
    each := fun x hx => by
      have h1 : inA (frS a s K).data.toList (a.extract x (x + 1)) := fun j hj => by
        rw [ByteArray.size_extract] at hj
        rw [bat_extract a x (x + 1) j (by omega) (by omega), bat_list, getD_lt _ _ _ (show x + j < a.data.toList.length by have : a.data.toList.length = a.size := rfl; omega)]
        exact hp.mem_iff.2 (List.getElem_mem _)
      rw [front_in hRB h1]
    cut := c2.2
    l1 := plL_len _ _ _
    l2 := plL_len _ _ _
    first := fun h0 => by
      obtain ⟨d, rfl⟩ : ∃ d, K = d + 1 := ⟨K - 1, by omega⟩
      have h1 := idx_at (ok_in hin d (by omega))
      show (frL a.data.toList s (d + 1)).getD 0 0 = _
      rw [frL]
      exact h1.1 }

set_option maxRecDepth 100000 in
set_option maxHeartbeats 1000000 in
theorem parts_law (s0 : ByteArray) (hs0 : s0.size ≤ 9223372036854775807) (raw : List Int) (hraw : In64 raw) (lraw : raw.length ≤ 9223372036854775807) (k0 : Int) (wk : -9223372036854775808 ≤ k0 ∧ k0 ≤ 9223372036854775807) :
    FPure Try.prog 5 [Is (.string s0), Sl 1 raw.length (raw.map (Value.int .i64)), Is (.int .i64 k0)] (Is (.bool true)) := by
  refine FPure.of Try.func5 Try.ntmps5 rfl (by kernel_rfl) rfl rfl rfl ?_
  refine W_seq ?_
  refine W_regionE (c := 1) (c' := 2) (by kernel_rfl) rfl ?_
  refine Runs_p rfl (Valid.assignk (A := Is _) rfl rfl) rfl rfl ?_ -- law.go:102 assign
  refine Runs_nil ?_
  refine thenQ_n ?_
  refine W_seq ?_
  refine W_regionE (c := 2) (c' := 4) (by kernel_rfl) rfl ?_
  refine Runs_p rfl (Valid.call rfl (awake_s) trivial) rfl rfl ?_ -- law.go:103 call
  refine Runs_p rfl (Valid.assignk (A := Is _) rfl rfl) rfl rfl ?_ -- law.go:103 assign
  refine Runs_nil ?_
  refine thenQ_n ?_
  refine W_seq ?_
  refine W_regionE (c := 4) (c' := 7) (by kernel_rfl) rfl ?_
  refine Runs_p rfl (Valid.movek (A := Is _) rfl rfl) rfl rfl ?_ -- law.go:104 move
  refine Runs_p rfl (Valid.call rfl (alph_s _ (by omega)) ⟨argle rfl, trivial⟩) rfl rfl ?_ -- law.go:104 call
  refine Runs_p rfl (Valid.assignk (A := Is _) rfl rfl) rfl rfl ?_ -- law.go:104 assign
  refine Runs_nil ?_
  refine thenQ_n ?_
  refine W_seq ?_
  refine W_regionE (c := 7) (c' := 11) (by kernel_rfl) rfl ?_
  refine Runs_p rfl (Valid.movek (A := Is _) rfl rfl) rfl rfl ?_ -- law.go:105 move
  refine Runs_p rfl (Valid.movek (A := Sl 1 _ _) rfl rfl) rfl rfl ?_ -- law.go:105 move
  refine Runs_p rfl (Valid.call rfl (text_s _ _ 200 (by have := alph_size s0 s0.size; unfold alphV; omega) hraw lraw (by decide)) ⟨argle rfl, argle_sl (Reads.sl rfl), argle rfl, trivial⟩) rfl rfl ?_ -- law.go:105 call
  refine Runs_p rfl (Valid.assignk (A := Is _) rfl rfl) rfl rfl ?_ -- law.go:105 assign
  refine Runs_nil ?_
  refine thenQ_n ?_
  refine W_seq ?_
  generalize hT : txtV (alphV s0) raw 200 = t
  have hin : inA (alphV s0).data.toList t := hT ▸ txt_in _ _ _
  have hts : t.size ≤ 200 := hT ▸ txt_size _ _ _
  have hR : RightP (alphV s0) := alph_right s0 s0.size
  have has : (alphV s0).size ≤ 30 := alph_size s0 s0.size
  generalize alphV s0 = a at *
  refine W_regionE (c := 11) (c' := 17) (by kernel_rfl) rfl ?_
  refine Runs_p rfl (Valid.movek (A := Is _) rfl rfl) rfl rfl ?_ -- law.go:106 move
  refine Runs_p rfl (Valid.movek (A := Is _) rfl rfl) rfl rfl ?_ -- law.go:106 move
  refine Runs_p rfl (Valid.slen rfl Try.underlying9 rfl) rfl rfl ?_ -- law.go:106 call
  refine Runs_p rfl (Valid.add rfl rfl rfl (room64 (by first | omega | (simp only [Int.toNat_natCast, toNat_add, toNat_add1, List.length_append, List.length_cons, List.length_nil, List.length_replicate]; omega)) (by first | omega | (simp only [Int.toNat_natCast, toNat_add, toNat_add1, List.length_append, List.length_cons, List.length_nil, List.length_replicate]; omega)))) rfl rfl ?_ -- law.go:106 binOp
  refine Runs_p rfl (Valid.call rfl (pick_s _ _ wk.1 wk.2 (by omega) (by omega)) ⟨argle rfl, argle rfl, trivial⟩) rfl rfl ?_ -- law.go:106 call
  refine Runs_p rfl (Valid.assignk (A := Is _) rfl rfl) rfl rfl ?_ -- law.go:106 assign
  refine Runs_nil ?_
  refine thenQ_n ?_
  refine W_seq ?_
  have hkr := pickV_range k0 ((t.size : Int) + 1) (by omega)
  generalize pickV k0 ((t.size : Int) + 1) = kk at *
  have hP := parts hR hin (K := kk.toNat) (by omega)
  have hz1 : (t.extract 0 kk.toNat).size ≤ 200 := by rw [ByteArray.size_extract]; omega
  have hz2 : (t.extract kk.toNat t.size).size ≤ 200 := by rw [ByteArray.size_extract]; omega
  generalize frS a t kk.toNat = b at *
  generalize frS a t t.size = c at *
  generalize plL a.data.toList t t.size = all at *
  generalize plL a.data.toList t kk.toNat = one at *
  generalize plL (frL a.data.toList t kk.toNat) (t.extract kk.toNat t.size) (t.size - kk.toNat) = two at *
  have hbsz := hP.bsz
  have hl1 := hP.l1
  have hl2 := hP.l2
  have hcut := hP.cut
  have hfst : kk = 0 ∨ bat b 0 = bat t (kk - 1) := by
    rcases Decidable.em (kk = 0) with h | h
    · exact .inl h
    · have h1 := hP.first (by omega)
      rw [show ((kk.toNat - 1 : Nat) : Int) = kk - 1 by omega] at h1
      exact .inr h1
  have hfst2 : kk = 0 ∨ (((bat b 0).toNat : Nat) : Int) = (((bat t (kk - 1)).toNat : Nat) : Int) := by
    rcases hfst with h | h
    · exact .inl h
    · exact .inr (by rw [h])
  have hbp : kk = 0 ∨ 0 < b.size := by
    rcases Decidable.em (kk = 0) with h | h
    · exact .inl h
    · have h1 := List.length_pos_of_mem (hin 0 (by omega))
      have h2 : a.data.toList.length = a.size := rfl
      exact .inr (by omega)
  refine W_regionE (c := 17) (c' := 27) (by kernel_rfl) rfl ?_
  refine Runs_p rfl (Valid.movek (A := Is _) rfl rfl) rfl rfl ?_ -- law.go:107 move
  refine Runs_p rfl (Valid.movek (A := Is _) rfl rfl) rfl rfl ?_ -- law.go:107 move
  refine Runs_p rfl (Valid.movek (A := Is _) rfl rfl) rfl rfl ?_ -- law.go:107 move
  refine Runs_p rfl (Valid.ssliceto rfl Try.underlying9 rfl rfl (by first | omega | (simp only [Int.toNat_natCast, toNat_add, toNat_add1, List.length_append, List.length_cons, List.length_nil, List.length_replicate]; omega))) rfl rfl ?_ -- law.go:107 slice
  refine Runs_p rfl (Valid.call rfl (after_t hP.aft1 (by omega) (by omega)) ⟨argle rfl, argle rfl, trivial⟩) rfl rfl ?_ -- law.go:107 call
  refine Runs_p rfl (Valid.movek (A := Tup [Is _, Is _]) rfl rfl) rfl rfl ?_ -- law.go:107 move
  refine Runs_p rfl (Valid.extract _ rfl rfl rfl) rfl rfl ?_ -- law.go:107 extract
  refine Runs_p rfl (Valid.extract _ rfl rfl rfl) rfl rfl ?_ -- law.go:107 extract
  refine Runs_p rfl (Valid.assignk (A := Is _) rfl rfl) rfl rfl ?_ -- law.go:107 assign
  refine Runs_p rfl (Valid.assignk (A := Is _) rfl rfl) rfl rfl ?_ -- law.go:107 assign
  refine Runs_nil ?_
  refine thenQ_n ?_
  refine W_seq ?_
  refine W_regionE (c := 27) (c' := 35) (by kernel_rfl) rfl ?_
  refine Runs_p rfl (Valid.movek (A := Is _) rfl rfl) rfl rfl ?_ -- law.go:108 move
  refine Runs_p rfl (Valid.movek (A := Is _) rfl rfl) rfl rfl ?_ -- law.go:108 move
  refine Runs_p rfl (Valid.call rfl (front_t hP.frA (by omega) (by omega)) ⟨argle rfl, argle rfl, trivial⟩) rfl rfl ?_ -- law.go:108 call
  refine Runs_p rfl (Valid.movek (A := Tup [Sl 1 _ _, Is _]) rfl rfl) rfl rfl ?_ -- law.go:108 move
  refine Runs_p rfl (Valid.extract _ rfl rfl rfl) rfl rfl ?_ -- law.go:108 extract
  refine Runs_p rfl (Valid.extract _ rfl rfl rfl) rfl rfl ?_ -- law.go:108 extract
  refine Runs_p rfl (Valid.assignk (A := Sl 1 _ _) rfl rfl) rfl rfl ?_ -- law.go:108 assign
  refine Runs_p rfl (Valid.assignk (A := Is _) rfl rfl) rfl rfl ?_ -- law.go:108 assign
  refine Runs_nil ?_
  refine thenQ_n ?_
  refine W_seq ?_
  refine W_regionE (c := 35) (c' := 45) (by kernel_rfl) rfl ?_
  refine Runs_p rfl (Valid.movek (A := Is _) rfl rfl) rfl rfl ?_ -- law.go:109 move
  refine Runs_p rfl (Valid.movek (A := Is _) rfl rfl) rfl rfl ?_ -- law.go:109 move
  refine Runs_p rfl (Valid.movek (A := Is _) rfl rfl) rfl rfl ?_ -- law.go:109 move
  refine Runs_p rfl (Valid.ssliceto rfl Try.underlying9 rfl rfl (by first | omega | (simp only [Int.toNat_natCast, toNat_add, toNat_add1, List.length_append, List.length_cons, List.length_nil, List.length_replicate]; omega))) rfl rfl ?_ -- law.go:109 slice
  refine Runs_p rfl (Valid.call rfl (front_t hP.fr1 (by omega) (by omega)) ⟨argle rfl, argle rfl, trivial⟩) rfl rfl ?_ -- law.go:109 call
  refine Runs_p rfl (Valid.movek (A := Tup [Sl 1 _ _, Is _]) rfl rfl) rfl rfl ?_ -- law.go:109 move
  refine Runs_p rfl (Valid.extract _ rfl rfl rfl) rfl rfl ?_ -- law.go:109 extract
  refine Runs_p rfl (Valid.extract _ rfl rfl rfl) rfl rfl ?_ -- law.go:109 extract
  refine Runs_p rfl (Valid.assignk (A := Sl 1 _ _) rfl rfl) rfl rfl ?_ -- law.go:109 assign
  refine Runs_p rfl (Valid.assignk (A := Is _) rfl rfl) rfl rfl ?_ -- law.go:109 assign
  refine Runs_nil ?_
  refine thenQ_n ?_
  refine W_seq ?_
  refine W_regionE (c := 45) (c' := 55) (by kernel_rfl) rfl ?_
  refine Runs_p rfl (Valid.movek (A := Is _) rfl rfl) rfl rfl ?_ -- law.go:110 move
  refine Runs_p rfl (Valid.movek (A := Is _) rfl rfl) rfl rfl ?_ -- law.go:110 move
  refine Runs_p rfl (Valid.movek (A := Is _) rfl rfl) rfl rfl ?_ -- law.go:110 move
  refine Runs_p rfl (Valid.sslicefrom rfl Try.underlying9 rfl rfl (by first | omega | (simp only [Int.toNat_natCast, toNat_add, toNat_add1, List.length_append, List.length_cons, List.length_nil, List.length_replicate]; omega))) rfl rfl ?_ -- law.go:110 slice
  refine Runs_p rfl (Valid.call rfl (front_t hP.fr2 (by omega) (by omega)) ⟨argle rfl, argle rfl, trivial⟩) rfl rfl ?_ -- law.go:110 call
  refine Runs_p rfl (Valid.movek (A := Tup [Sl 1 _ _, Is _]) rfl rfl) rfl rfl ?_ -- law.go:110 move
  refine Runs_p rfl (Valid.extract _ rfl rfl rfl) rfl rfl ?_ -- law.go:110 extract
  refine Runs_p rfl (Valid.extract _ rfl rfl rfl) rfl rfl ?_ -- law.go:110 extract
  refine Runs_p rfl (Valid.assignk (A := Sl 1 _ _) rfl rfl) rfl rfl ?_ -- law.go:110 assign
  refine Runs_p rfl (Valid.assignk (A := Is _) rfl rfl) rfl rfl ?_ -- law.go:110 assign
  refine Runs_nil ?_
  refine thenQ_n ?_
  refine W_seq ?_
  refine W_regionE (c := 55) (c' := 65) (by kernel_rfl) rfl ?_
  refine Runs_p rfl (Valid.movek (A := Is _) rfl rfl) rfl rfl ?_ -- law.go:111 move
  refine Runs_p rfl (Valid.movek (A := Is _) rfl rfl) rfl rfl ?_ -- law.go:111 move
  refine Runs_p rfl (Valid.movek (A := Is _) rfl rfl) rfl rfl ?_ -- law.go:111 move
  refine Runs_p rfl (Valid.sslicefrom rfl Try.underlying9 rfl rfl (by first | omega | (simp only [Int.toNat_natCast, toNat_add, toNat_add1, List.length_append, List.length_cons, List.length_nil, List.length_replicate]; omega))) rfl rfl ?_ -- law.go:111 slice
  refine Runs_p rfl (Valid.call rfl (after_t hP.aft2 (by omega) (by omega)) ⟨argle rfl, argle rfl, trivial⟩) rfl rfl ?_ -- law.go:111 call
  refine Runs_p rfl (Valid.movek (A := Tup [Is _, Is _]) rfl rfl) rfl rfl ?_ -- law.go:111 move
  refine Runs_p rfl (Valid.extract _ rfl rfl rfl) rfl rfl ?_ -- law.go:111 extract
  refine Runs_p rfl (Valid.extract _ rfl rfl rfl) rfl rfl ?_ -- law.go:111 extract
  refine Runs_p rfl (Valid.assignk (A := Is _) rfl rfl) rfl rfl ?_ -- law.go:111 assign
  refine Runs_p rfl (Valid.assignk (A := Is _) rfl rfl) rfl rfl ?_ -- law.go:111 assign
  refine Runs_nil ?_
  refine thenQ_n ?_
  refine W_seq ?_
  refine W_regionE (c := 65) (c' := 73) (by kernel_rfl) rfl ?_
  refine Runs_p rfl (Valid.movek (A := Is _) rfl rfl) rfl rfl ?_ -- law.go:112 move
  refine Runs_p rfl (Valid.movek (A := Is _) rfl rfl) rfl rfl ?_ -- law.go:112 move
  refine Runs_p rfl (Valid.call rfl (after_t hP.aftA (by omega) (by omega)) ⟨argle rfl, argle rfl, trivial⟩) rfl rfl ?_ -- law.go:112 call
  refine Runs_p rfl (Valid.movek (A := Tup [Is _, Is _]) rfl rfl) rfl rfl ?_ -- law.go:112 move
  refine Runs_p rfl (Valid.extract _ rfl rfl rfl) rfl rfl ?_ -- law.go:112 extract
  refine Runs_p rfl (Valid.extract _ rfl rfl rfl) rfl rfl ?_ -- law.go:112 extract
  refine Runs_p rfl (Valid.assignk (A := Is _) rfl rfl) rfl rfl ?_ -- law.go:112 assign
  refine Runs_p rfl (Valid.assignk (A := Is _) rfl rfl) rfl rfl ?_ -- law.go:112 assign
  refine Runs_nil ?_
  refine thenQ_n ?_
  refine W_seq ?_
  refine W_seq ?_
  refine W_regionE (c := 73) (c' := 107) (by kernel_rfl) rfl ?_
  refine Runs_p rfl (Valid.movek (A := Is _) rfl rfl) rfl rfl ?_ -- law.go:113 move
  refine Runs_p rfl (Valid.neq rfl rfl rfl) rfl rfl ?_ -- law.go:113 binOp
  refine Runs_p rfl (Valid.movek (A := Is _) rfl rfl) rfl rfl ?_ -- law.go:113 move
  refine Runs_cnd rfl rfl (Grd.is rfl) [] (fun hg => trivial) (fun hg => Valid.movek (A := Is _) rfl rfl) (by rfl) rfl ?_
  refine Runs_cnd rfl rfl (Grd.is rfl) [(84, _)] (fun hg => ⟨cnd_at rfl (by first | exact hg | exact hg.1 | exact hg.1.1 | exact hg.1.1.1), trivial⟩) (fun hg => Valid.neq rfl rfl rfl) (by rfl) rfl ?_
  refine Runs_p rfl (Valid.pickor rfl rfl rfl rfl (fun h => by first | exact h | exact ⟨hg, h⟩)) rfl rfl ?_ -- law.go:113 pick
  refine Runs_p rfl (Valid.movek (A := Is _) rfl rfl) rfl rfl ?_ -- law.go:113 move
  refine Runs_cnd rfl rfl (Grd.is rfl) [] (fun hg => trivial) (fun hg => Valid.movek (A := Is _) rfl rfl) (by rfl) rfl ?_
  refine Runs_cnd rfl rfl (Grd.is rfl) [(88, _)] (fun hg => ⟨cnd_at rfl (by first | exact hg | exact hg.1 | exact hg.1.1 | exact hg.1.1.1), trivial⟩) (fun hg => Valid.neq rfl rfl rfl) (by rfl) rfl ?_
  refine Runs_p rfl (Valid.pickor rfl rfl rfl rfl (fun h => by first | exact h | exact ⟨hg, h⟩)) rfl rfl ?_ -- law.go:113 pick
  refine Runs_p rfl (Valid.movek (A := Is _) rfl rfl) rfl rfl ?_ -- law.go:113 move
  refine Runs_cnd rfl rfl (Grd.is rfl) [] (fun hg => trivial) (fun hg => Valid.movek (A := Is _) rfl rfl) (by rfl) rfl ?_
  refine Runs_cnd rfl rfl (Grd.is rfl) [(92, _)] (fun hg => ⟨cnd_at rfl (by first | exact hg | exact hg.1 | exact hg.1.1 | exact hg.1.1.1), trivial⟩) (fun hg => Valid.neq rfl rfl rfl) (by rfl) rfl ?_
  refine Runs_p rfl (Valid.pickor rfl rfl rfl rfl (fun h => by first | exact h | exact ⟨hg, h⟩)) rfl rfl ?_ -- law.go:113 pick
  refine Runs_p rfl (Valid.movek (A := Is _) rfl rfl) rfl rfl ?_ -- law.go:113 move
  refine Runs_cnd rfl rfl (Grd.is rfl) [] (fun hg => trivial) (fun hg => Valid.movek (A := Is _) rfl rfl) (by rfl) rfl ?_
  refine Runs_cnd rfl rfl (Grd.is rfl) [(96, _)] (fun hg => ⟨cnd_at rfl (by first | exact hg | exact hg.1 | exact hg.1.1 | exact hg.1.1.1), trivial⟩) (fun hg => Valid.neq rfl rfl rfl) (by rfl) rfl ?_
  refine Runs_p rfl (Valid.pickor rfl rfl rfl rfl (fun h => by first | exact h | exact ⟨hg, h⟩)) rfl rfl ?_ -- law.go:113 pick
  refine Runs_p rfl (Valid.movek (A := Is _) rfl rfl) rfl rfl ?_ -- law.go:113 move
  refine Runs_cnd rfl rfl (Grd.is rfl) [] (fun hg => trivial) (fun hg => Valid.movek (A := Is _) rfl rfl) (by rfl) rfl ?_
  refine Runs_cnd rfl rfl (Grd.is rfl) [(100, _)] (fun hg => ⟨cnd_at rfl (by first | exact hg | exact hg.1 | exact hg.1.1 | exact hg.1.1.1), trivial⟩) (fun hg => Valid.neq rfl rfl rfl) (by rfl) rfl ?_
  refine Runs_p rfl (Valid.pickor rfl rfl rfl rfl (fun h => by first | exact h | exact ⟨hg, h⟩)) rfl rfl ?_ -- law.go:113 pick
  refine Runs_p rfl (Valid.movek (A := Is _) rfl rfl) rfl rfl ?_ -- law.go:113 move
  refine Runs_cnd rfl rfl (Grd.is rfl) [] (fun hg => trivial) (fun hg => Valid.movek (A := Is _) rfl rfl) (by rfl) rfl ?_
  refine Runs_cnd rfl rfl (Grd.is rfl) [(104, _)] (fun hg => ⟨cnd_at rfl (by first | exact hg | exact hg.1 | exact hg.1.1 | exact hg.1.1.1), trivial⟩) (fun hg => Valid.slen rfl Try.underlying9 rfl) (by rfl) rfl ?_
  refine Runs_cnd rfl rfl (Grd.is rfl) [] (fun hg => trivial) (fun hg => Valid.movek (A := Is _) rfl rfl) (by rfl) rfl ?_
  refine Runs_cnd rfl rfl (Grd.is rfl) [(106, _)] (fun hg => ⟨cnd_at rfl (by first | exact hg | exact hg.1 | exact hg.1.1 | exact hg.1.1.1), trivial⟩) (fun hg => Valid.slen rfl Try.underlying9 rfl) (by rfl) rfl ?_
  refine Runs_cnd rfl rfl (Grd.is rfl) [(105, _), (107, _)] (fun hg => ⟨cnd_at rfl (by first | exact hg | exact hg.1 | exact hg.1.1 | exact hg.1.1.1), cnd_at rfl (by first | exact hg | exact hg.1 | exact hg.1.1 | exact hg.1.1.1), trivial⟩) (fun hg => Valid.neq rfl rfl rfl) (by rfl) rfl ?_
  refine Runs_p rfl (Valid.pickor rfl rfl rfl rfl (fun h => by first | exact h | exact ⟨hg, h⟩)) rfl rfl ?_ -- law.go:113 pick
  refine Runs_p rfl (Valid.movek (A := Is _) rfl rfl) rfl rfl ?_ -- law.go:113 move
  refine Runs_cnd rfl rfl (Grd.is rfl) [] (fun hg => trivial) (fun hg => Valid.movek (A := Is _) rfl rfl) (by rfl) rfl ?_
  refine Runs_cnd rfl rfl (Grd.is rfl) [(111, _)] (fun hg => ⟨cnd_at rfl (by first | exact hg | exact hg.1 | exact hg.1.1 | exact hg.1.1.1), trivial⟩) (fun hg => Valid.call rfl (right_s _ (by (try simp only [decide_eq_false_iff_not, Bool.or_eq_false_iff, not_true_eq_false, not_false_eq_true, ne_eq] at hg); omega)) ⟨argle rfl, trivial⟩) (by rfl) rfl ?_
  refine Runs_cnd rfl rfl (Grd.is rfl) [(112, _)] (fun hg => ⟨cnd_at rfl (by first | exact hg | exact hg.1 | exact hg.1.1 | exact hg.1.1.1), trivial⟩) (fun hg => Valid.not rfl rfl) (by rfl) rfl ?_
  refine Runs_p rfl (Valid.pickor rfl rfl rfl rfl (fun h => by first | exact h | exact ⟨hg, h⟩)) rfl rfl ?_ -- law.go:113 pick
  refine Runs_nil ?_
  refine thenQ_n ?_
  refine W_cond _ rfl (fun hb1 => ?_) (fun hb1 => ?_)
  · try simp only [decide_eq_true_eq, decide_eq_false_iff_not, Bool.or_eq_true, Bool.not_eq_true', not_true_eq_false, ne_eq] at hb1
    all_goals (
      exfalso
      rcases hb1 with ((((((h | h) | h) | h) | h) | h) | h) | h
      · simp at h
      · simp at h
      · simp at h
      · simp at h
      · simp at h
      · simp at h
      · omega
      · exact h hP.right
      
      done)
  · try simp only [decide_eq_true_eq, decide_eq_false_iff_not, Bool.or_eq_false_iff, Bool.not_eq_false', not_true_eq_false, not_false_eq_true, ne_eq] at hb1
    all_goals (
      refine W_skip ?_
      refine thenQ_n ?_
      refine W_seq ?_
      refine W_seq ?_
      refine W_regionE (c := 107) (c' := 108) (by kernel_rfl) rfl ?_
      refine Runs_p rfl (Valid.assignk (A := Is _) rfl rfl) rfl rfl ?_ -- law.go:116 assign
      refine Runs_nil ?_
      refine thenQ_n ?_
      refine W_block ?_
      refine W_loopx (G := Nat) (fun (x : Nat) => x ≤ a.size) [(7, Is _), (8, Is _), (9, Is _), (10, Is _), (11, Is _), (13, Sl 1 _ _), (15, Sl 1 _ _), (17, Sl 1 _ _), (19, Is _), (21, Is _)] (fun (x : Nat) => [(23, Is (.int .i64 (x : Int)))]) [] (fun (x : Nat) => []) 108 (fun (x : Nat) => a.size - x) (0) [] (by first | trivial | omega | (simp; omega)) ⟨⟨(leq_is rfl rfl (by first | rfl | (simp; done) | omega | (simp [toNat_add, toNat_add1, Nat.add_assoc]; done) | (simp [toNat_add, toNat_add1]; omega))), trivial⟩, ⟨(leq_is rfl rfl rfl), (leq_is rfl rfl rfl), (leq_is rfl rfl rfl), (leq_is rfl rfl rfl), (leq_is rfl rfl rfl), (leq_sl (Reads.sl rfl) rfl rfl rfl), (leq_sl (Reads.sl rfl) rfl rfl rfl), (leq_sl (Reads.sl rfl) rfl rfl rfl), (leq_is rfl rfl rfl), (leq_is rfl rfl rfl), trivial⟩, trivial, trivial, rfl, ⟨supg rfl, trivial⟩, ⟨supg rfl, supg rfl, supg rfl, supg rfl, supg rfl, supg rfl, supg rfl, supg rfl, supg rfl, supg rfl, trivial⟩, trivial, trivial, rfl, rfl⟩ ?_
      intro x hI1
      refine W_seq ?_
      refine W_seq ?_
      refine W_regionE (c := 108) (c' := 112) (by kernel_rfl) rfl ?_
      refine Runs_p rfl (Valid.movek (A := Is _) rfl rfl) rfl rfl ?_ -- law.go:116 move
      refine Runs_p rfl (Valid.movek (A := Is _) rfl rfl) rfl rfl ?_ -- law.go:116 move
      refine Runs_p rfl (Valid.slen rfl Try.underlying9 rfl) rfl rfl ?_ -- law.go:116 call
      refine Runs_p rfl (Valid.lss rfl rfl rfl) rfl rfl ?_ -- law.go:116 binOp
      refine Runs_nil ?_
      refine thenQ_n ?_
      refine W_cond _ rfl (fun hb2 => ?_) (fun hb2 => ?_)
      · try simp only [decide_eq_true_eq] at hb2
        all_goals (
          refine W_skip ?_
          refine thenQ_n ?_
          refine W_seq ?_
          refine W_block ?_
          refine W_seq ?_
          refine W_regionE (c := 112) (c' := 124) (by kernel_rfl) rfl ?_
          refine Runs_p rfl (Valid.movek (A := Is _) rfl rfl) rfl rfl ?_ -- law.go:117 move
          refine Runs_p rfl (Valid.movek (A := Is _) rfl rfl) rfl rfl ?_ -- law.go:117 move
          refine Runs_p rfl (Valid.movek (A := Is _) rfl rfl) rfl rfl ?_ -- law.go:117 move
          refine Runs_p rfl (Valid.movek (A := Is _) rfl rfl) rfl rfl ?_ -- law.go:117 move
          refine Runs_p rfl (Valid.add rfl rfl rfl (room64 (by first | omega | (simp only [Int.toNat_natCast, toNat_add, toNat_add1, List.length_append, List.length_cons, List.length_nil, List.length_replicate]; omega)) (by first | omega | (simp only [Int.toNat_natCast, toNat_add, toNat_add1, List.length_append, List.length_cons, List.length_nil, List.length_replicate]; omega)))) rfl rfl ?_ -- law.go:117 binOp
          refine Runs_p rfl (Valid.sslice rfl Try.underlying9 rfl rfl rfl (by first | omega | (simp only [Int.toNat_natCast, toNat_add, toNat_add1, List.length_append, List.length_cons, List.length_nil, List.length_replicate]; omega))) rfl rfl ?_ -- law.go:117 slice
          refine Runs_p rfl (Valid.call rfl (front_s _ _ (by omega) (by rw [ByteArray.size_extract]; omega)) ⟨argle rfl, argle rfl, trivial⟩) rfl rfl ?_ -- law.go:117 call
          refine Runs_p rfl (Valid.movek (A := Tup [Sl 1 _ _, Is _]) rfl rfl) rfl rfl ?_ -- law.go:117 move
          refine Runs_p rfl (Valid.extract _ rfl rfl rfl) rfl rfl ?_ -- law.go:117 extract
          refine Runs_p rfl (Valid.extract _ rfl rfl rfl) rfl rfl ?_ -- law.go:117 extract
          refine Runs_p rfl (Valid.assignk (A := Sl 1 _ _) rfl rfl) rfl rfl ?_ -- law.go:117 assign
          refine Runs_p rfl (Valid.assignk (A := Is _) rfl rfl) rfl rfl ?_ -- law.go:117 assign
          refine Runs_nil ?_
          refine thenQ_n ?_
          refine W_seq ?_
          refine W_regionE (c := 124) (c' := 126) (by kernel_rfl) rfl ?_
          refine Runs_p rfl (Valid.movek (A := Is _) rfl rfl) rfl rfl ?_ -- law.go:118 move
          refine Runs_p rfl (Valid.neq rfl rfl rfl) rfl rfl ?_ -- law.go:118 binOp
          refine Runs_nil ?_
          refine thenQ_n ?_
          refine W_cond _ rfl (fun hb3 => ?_) (fun hb3 => ?_)
          · try simp only [Int.toNat_natCast, toNat_add1, decide_eq_true_eq, ne_eq] at hb3
            all_goals (
              exfalso
              exact hb3 (hP.each x (by omega))
              
              done)
          · try simp only [Int.toNat_natCast, toNat_add1, decide_eq_false_iff_not, ne_eq] at hb3
            all_goals (
              refine W_skip ?_
              refine blockQ_n ?_
              refine thenQ_n ?_
              refine W_regionE (c := 126) (c' := 129) (by kernel_rfl) rfl ?_
              refine Runs_p rfl (Valid.movek (A := Is _) rfl rfl) rfl rfl ?_ -- law.go:116 move
              refine Runs_p rfl (Valid.add rfl rfl rfl (room64 (by first | omega | (simp only [Int.toNat_natCast, toNat_add, toNat_add1, List.length_append, List.length_cons, List.length_nil, List.length_replicate]; omega)) (by first | omega | (simp only [Int.toNat_natCast, toNat_add, toNat_add1, List.length_append, List.length_cons, List.length_nil, List.length_replicate]; omega)))) rfl rfl ?_ -- law.go:116 binOp
              refine Runs_p rfl (Valid.assignk (A := Is _) rfl rfl) rfl rfl ?_ -- law.go:116 assign
              refine Runs_nil ?_
              refine LoopQ.next (x + 1) [] (by omega) (by omega) ⟨⟨(leq_is rfl rfl (by first | rfl | (simp; done) | omega | (simp [toNat_add, toNat_add1, Nat.add_assoc]; done) | (simp [toNat_add, toNat_add1]; omega))), trivial⟩, ⟨(leq_is rfl rfl rfl), (leq_is rfl rfl rfl), (leq_is rfl rfl rfl), (leq_is rfl rfl rfl), (leq_is rfl rfl rfl), (leq_sl (Reads.sl rfl) rfl rfl rfl), (leq_sl (Reads.sl rfl) rfl rfl rfl), (leq_sl (Reads.sl rfl) rfl rfl rfl), (leq_is rfl rfl rfl), (leq_is rfl rfl rfl), trivial⟩, trivial, trivial, rfl, ⟨supg rfl, trivial⟩, ⟨supg rfl, supg rfl, supg rfl, supg rfl, supg rfl, supg rfl, supg rfl, supg rfl, supg rfl, supg rfl, trivial⟩, trivial, trivial, rfl, rfl⟩
              done)
          done)
      · try simp only [decide_eq_false_iff_not] at hb2
        all_goals (
          refine W_exit ?_
          refine thenQ_e ?_
          refine loopQ_e ?_
          refine blockQ_x ?_
          refine thenQ_n ?_
          refine W_seq ?_
          refine W_drawE (c := 112) (c' := 140) (by kernel_rfl) rfl ?_
          refine Runs_p rfl (Valid.movek (A := Is _) rfl rfl) rfl rfl ?_ -- law.go:122 move
          refine Runs_p rfl (Valid.movek (A := Is _) rfl rfl) rfl rfl ?_ -- law.go:122 move
          refine Runs_yesp rfl rfl (Grd.is rfl) (by rfl) (Valid.movek (A := Sl 1 _ _) rfl rfl) rfl rfl ?_ -- law.go:122 move
          refine Runs_yesp rfl rfl (Grd.is rfl) (by rfl) (Valid.movek (A := Sl 1 _ _) rfl rfl) rfl rfl ?_ -- law.go:122 move
          refine Runs_yesw rfl rfl (Grd.is rfl) (by rfl) (Valid.appnil rfl Try.underlying22 ti3 (by decide) rfl (Reads.sl rfl) (by first | exact one_map (fun _ => rfl) | exact one_cons rfl one_nil | exact one_app (one_map (fun _ => rfl)) (one_cons rfl one_nil) | exact one_app (one_map (fun _ => rfl)) (one_map (fun _ => rfl)) | exact one_rep rfl | exact one_app (one_rep rfl) (one_map (fun _ => rfl)) | (intro u hu; simp at hu; rcases hu with rfl | hu <;> first | rfl | (subst hu; rfl))) (by simp only [maxLen]; omega) (by omega)) rfl rfl ?_ -- law.go:122 call
          refine Runs_yesp rfl rfl (Grd.is rfl) (by rfl) (Valid.movek (A := Sl 1 _ _) rfl rfl) rfl rfl ?_ -- law.go:122 move
          refine Runs_yesw rfl rfl (Grd.is rfl) (by rfl) (Valid.app rfl Try.underlying22 ti3 (by decide) rfl rfl (Reads.sl rfl) (by first | exact one_map (fun _ => rfl) | exact one_cons rfl one_nil | exact one_app (one_map (fun _ => rfl)) (one_cons rfl one_nil) | exact one_app (one_map (fun _ => rfl)) (one_map (fun _ => rfl)) | exact one_rep rfl | exact one_app (one_rep rfl) (one_map (fun _ => rfl)) | (intro u hu; simp at hu; rcases hu with rfl | hu <;> first | rfl | (subst hu; rfl))) (by simp only [maxLen]; omega) (by omega)) rfl rfl ?_ -- law.go:122 call
          refine Runs_yesp rfl rfl (Grd.is rfl) (by rfl) (Valid.call rfl (ints_t (l := all) (m := one ++ two) rfl rfl (by simp) (by simp) (by rw [hcut]; simp; omega) hcut) ⟨argle_sl (Reads.sl rfl), argle_sl (Reads.own rfl), trivial⟩) rfl rfl ?_ -- law.go:122 call
          refine Runs_p rfl (Valid.pickt (A := Is _) rfl rfl rfl) rfl rfl ?_ -- law.go:122 pick
          refine Runs_p rfl (Valid.movek (A := Is _) rfl rfl) rfl rfl ?_ -- law.go:122 move
          refine Runs_cnd rfl rfl (Grd.is rfl) [] (fun hg => trivial) (fun hg => Valid.movek (A := Is _) rfl rfl) (by rfl) rfl ?_
          refine Runs_cnd rfl rfl (Grd.is rfl) [] (fun hg => trivial) (fun hg => Valid.movek (A := Is _) rfl rfl) (by rfl) rfl ?_
          refine Runs_cnd rfl rfl (Grd.is rfl) [(143, _), (144, _)] (fun hg => ⟨cnd_at rfl (by first | exact hg | exact hg.1 | exact hg.1.1 | exact hg.1.1.1), cnd_at rfl (by first | exact hg | exact hg.1 | exact hg.1.1 | exact hg.1.1.1), trivial⟩) (fun hg => Valid.seql rfl rfl rfl) (by rfl) rfl ?_
          refine Runs_p rfl (Valid.pickand rfl rfl rfl (fun h => by first | exact h | exact ⟨hg, h⟩) rfl) rfl rfl ?_ -- law.go:122 pick
          refine Runs_p rfl (Valid.movek (A := Is _) rfl rfl) rfl rfl ?_ -- law.go:122 move
          refine Runs_cnd rfl rfl (Grd.is rfl) [] (fun hg => trivial) (fun hg => Valid.movek (A := Is _) rfl rfl) (by rfl) rfl ?_
          refine Runs_cnd rfl rfl (Grd.is rfl) [(148, _)] (fun hg => ⟨cnd_at rfl (by first | exact hg | exact hg.1 | exact hg.1.1 | exact hg.1.1.1), trivial⟩) (fun hg => Valid.eql rfl rfl rfl) (by rfl) rfl ?_
          refine Runs_cnd rfl rfl (Grd.is rfl) [(149, _)] (fun hg => ⟨cnd_at rfl (by first | exact hg | exact hg.1 | exact hg.1.1 | exact hg.1.1.1), trivial⟩) (fun hg => Valid.movek (A := Is _) rfl rfl) (by rfl) rfl ?_
          refine Runs_cnd rfl rfl (Grd.cnd rfl) [] (fun hg => trivial) (fun hg => Valid.movek (A := Is _) rfl rfl) (by rfl) rfl ?_
          refine Runs_cnd rfl rfl (Grd.cnd rfl) [(151, _)] (fun hg => ⟨cnd_at rfl (by first | exact hg | exact hg.1 | exact hg.1.1 | exact hg.1.1.1), trivial⟩) (fun hg => Valid.sindex rfl Try.underlying9 rfl rfl (by (try simp only [decide_eq_true_eq, decide_eq_false_iff_not, Bool.and_eq_true] at hg); first | omega | (simp only [Int.toNat_natCast, toNat_add, toNat_add1, List.length_append, List.length_cons, List.length_nil, List.length_replicate]; omega))) (by rfl) rfl ?_
          refine Runs_cnd rfl rfl (Grd.cnd rfl) [] (fun hg => trivial) (fun hg => Valid.movek (A := Is _) rfl rfl) (by rfl) rfl ?_
          refine Runs_cnd rfl rfl (Grd.cnd rfl) [] (fun hg => trivial) (fun hg => Valid.movek (A := Is _) rfl rfl) (by rfl) rfl ?_
          refine Runs_cnd rfl rfl (Grd.cnd rfl) [(154, _)] (fun hg => ⟨cnd_at rfl (by first | exact hg | exact hg.1 | exact hg.1.1 | exact hg.1.1.1), trivial⟩) (fun hg => Valid.sub rfl rfl rfl (room64 (by (try simp only [decide_eq_true_eq, decide_eq_false_iff_not, Bool.and_eq_true] at hg); first | omega | (simp only [Int.toNat_natCast, toNat_add, toNat_add1, List.length_append, List.length_cons, List.length_nil, List.length_replicate]; omega)) (by (try simp only [decide_eq_true_eq, decide_eq_false_iff_not, Bool.and_eq_true] at hg); first | omega | (simp only [Int.toNat_natCast, toNat_add, toNat_add1, List.length_append, List.length_cons, List.length_nil, List.length_replicate]; omega)))) (by rfl) rfl ?_
          refine Runs_cnd rfl rfl (Grd.cnd rfl) [(153, _), (155, _)] (fun hg => ⟨cnd_at rfl (by first | exact hg | exact hg.1 | exact hg.1.1 | exact hg.1.1.1), cnd_at rfl (by first | exact hg | exact hg.1 | exact hg.1.1 | exact hg.1.1.1), trivial⟩) (fun hg => Valid.sindex rfl Try.underlying9 rfl rfl (by (try simp only [decide_eq_true_eq, decide_eq_false_iff_not, Bool.and_eq_true] at hg); first | omega | (simp only [Int.toNat_natCast, toNat_add, toNat_add1, List.length_append, List.length_cons, List.length_nil, List.length_replicate]; omega))) (by rfl) rfl ?_
          refine Runs_cnd rfl rfl (Grd.cnd rfl) [(152, _), (156, _)] (fun hg => ⟨cnd_at rfl (by first | exact hg | exact hg.1 | exact hg.1.1 | exact hg.1.1.1), cnd_at rfl (by first | exact hg | exact hg.1 | exact hg.1.1 | exact hg.1.1.1), trivial⟩) (fun hg => Valid.eql rfl rfl rfl) (by rfl) rfl ?_
          refine Runs_cnd rfl rfl (Grd.is rfl) [(150, _)] (fun hg => ⟨cnd_at rfl (by first | exact hg | exact hg.1 | exact hg.1.1 | exact hg.1.1.1), trivial⟩) (fun hg => Valid.pickor rfl rfl rfl rfl (fun h => by first | exact h | exact ⟨hg, h⟩)) (by rfl) rfl ?_
          refine Runs_p rfl (Valid.pickand rfl rfl rfl (fun h => by first | exact h | exact ⟨hg, h⟩) rfl) rfl rfl ?_ -- law.go:122 pick
          refine Runs_p rfl (Valid.assignk (A := Is _) rfl rfl) rfl rfl ?_ -- law.go:122 assign
          refine Runs_nil ?_
          refine ⟨_, _, rfl, rfl, by kernel_rfl, ?_⟩
          refine thenQ_n ?_
          refine W_ret ?_
          refine finQ_r ?_
          refine ResOk.one rfl (RVal.is rfl rfl (by first | rfl | (simp; exact hfst2)))
          done)
      done)
end Fh
end Go.Proofs.Ytilljaaolejedaa
