/-
  WALKS of stage 5: other names; what comes again.
-/
import Derived.Test.YtilljaaolejedaaRows
import Derived.Test.YtilljaaolejedaaAbq
import Derived.Test.YtilljaaolejedaaCm
import Derived.Test.YtilljaaolejedaaFa
import Derived.Test.YtilljaaolejedaaFb
import Derived.Test.YtilljaaolejedaaFc
import Derived.Test.YtilljaaolejedaaFq
import Derived.Test.YtilljaaolejedaaFe
import Derived.Test.YtilljaaolejedaaFm
import Derived.Test.YtilljaaolejedaaFi
namespace Go.Proofs.Ytilljaaolejedaa
open Go.RowKit
namespace Fj
open Ab Cm Fa Fb Fc Fq Fe Fm Fi
theorem ag3 (w : World) : (isAgg 3).run Try.prog w = .ok false w := by kernel_rfl
theorem sz3 (w : World) : (sizeOf 3).run Try.prog w = .ok 1 w := by kernel_rfl
theorem ti5 : TI Try.prog 5 1 1 := .mk' (z := (Value.int .u8 0)) (by kernel_rfl) rfl
/-! other names -/
theorem xor_u8 {P : Program} {t : TypeId} (x y : UInt8) (w : World) : (binOp .xor t (.int .u8 (x.toNat : Int)) (.int .u8 (y.toNat : Int))).run P w = .ok (.int .u8 ((x ^^^ y).toNat : Int)) w := by
  show (Op.intBits .xor .u8 (x.toNat : Int) (y.toNat : Int)).run P w = _
  have h1 : ∀ z : UInt8, BitVec.ofInt 8 (z.toNat : Int) = z.toBitVec := fun z => by
    rw [BitVec.ofInt_natCast]
    exact BitVec.ofNat_toNat _ _
  have h2 : IntKind.u8.wrap (((x.toBitVec ^^^ y.toBitVec).toNat : Nat) : Int) = ((x ^^^ y).toNat : Int) := by
    have : (x.toBitVec ^^^ y.toBitVec).toNat < 256 := (x.toBitVec ^^^ y.toBitVec).isLt
    rw [IntKind.wrap_u8]
    show _ = (((x.toBitVec ^^^ y.toBitVec).toNat : Nat) : Int)
    omega
  show (pure (Value.int .u8 (IntKind.u8.wrap (((BitVec.ofInt 8 (x.toNat : Int) ^^^ BitVec.ofInt 8 (y.toNat : Int)).toNat : Nat) : Int))) : Sem Value).run P w = _
  rw [h1, h1, h2]; rfl
def xr (y : UInt8) (u : UInt8) : UInt8 := u ^^^ y
theorem xr_inj {y u v : UInt8} (h : xr y u = xr y v) : u = v := by
  unfold xr at h
  have : (u ^^^ y) ^^^ y = (v ^^^ y) ^^^ y := by rw [h]
  rwa [UInt8.xor_assoc, UInt8.xor_assoc, UInt8.xor_self, UInt8.xor_zero, UInt8.xor_zero] at this
theorem idx_map {f : UInt8 → UInt8} (hf : ∀ u v, f u = f v → u = v) (l : List UInt8) (c : UInt8) : idx (l.map f) (f c) = idx l c := by
  unfold idx
  induction l with
  | nil => rfl
  | cons b l ih =>
    rw [List.map_cons]
    unfold Lib.indexByte
    rw [ih]
    by_cases h : b = c
    · subst h; simp
    · have : ¬ f b = f c := fun e => h (hf _ _ e)
      have e1 : (f b == f c) = false := by simpa using this
      have e2 : (b == c) = false := by simpa using h
      rw [e1, e2]
theorem mtf_map (f : UInt8 → UInt8) (l : List UInt8) (k : Nat) (h : k < l.length) : mtf (l.map f) k = (mtf l k).map f := by
  unfold mtf
  rw [getD_lt _ _ _ (by simpa using h), getD_lt _ _ _ h]
  simp [List.map_take, List.map_drop]
theorem names_fr {f : UInt8 → UInt8} (hf : ∀ u v, f u = f v → u = v) {l : List UInt8} {s t : ByteArray} (hin : inA l s) (ht : ∀ j : Nat, j < s.size → bat t (j : Int) = f (bat s (j : Int))) : ∀ k, k ≤ s.size → frL (l.map f) t k = (frL l s k).map f ∧ plL (l.map f) t k = plL l s k
  | 0, _ => by rw [frL_0, frL_0, plL_0, plL_0]; exact ⟨rfl, rfl⟩
  | k + 1, hk => by
    obtain ⟨h1, h2⟩ := names_fr hf hin ht k (by omega)
    have hi : idx ((frL l s k).map f) (bat t (k : Int)) = idx (frL l s k) (bat s (k : Int)) := by rw [ht k (by omega), idx_map hf]
    have h0 := ok_in hin k (by omega)
    have hlt := idx_lt (frL l s k) (bat s (k : Int))
    rw [frL, frL, plL, plL, h1, h2, hi, mtf_map f _ _ (by omega)]
    exact ⟨rfl, rfl⟩
def mpS (f : UInt8 → UInt8) (s : ByteArray) : ByteArray := ⟨(s.data.toList.map f).toArray⟩
theorem mpS_size (f : UInt8 → UInt8) (s : ByteArray) : (mpS f s).size = s.size := by
  show (s.data.toList.map f).length = s.size
  rw [List.length_map]; rfl
theorem mpS_bat (f : UInt8 → UInt8) (s : ByteArray) (j : Nat) (h : j < s.size) : bat (mpS f s) (j : Int) = f (bat s (j : Int)) := by
  show (s.data.toList.map f).getD j 0 = f (s.data.toList.getD j 0)
  rw [getD_lt _ _ _ (by rw [List.length_map]; exact h), getD_lt _ _ _ h, List.getElem_map]
theorem names_right {f : UInt8 → UInt8} (hf : ∀ u v, f u = f v → u = v) {a : ByteArray} (hR : RightP a) : RightP (mpS f a) := fun i hi j hj e => by
  rw [mpS_size] at hi
  rw [mpS_bat _ _ _ (by omega), mpS_bat _ _ _ hi] at e
  exact hR i hi j hj (hf _ _ e)
theorem names {f : UInt8 → UInt8} (hf : ∀ u v, f u = f v → u = v) {a s : ByteArray} (hR : RightP a) (hin : inA a.data.toList s) : frontV (mpS f a) (mpS f s) = (plL a.data.toList s s.size, 0) := by
  have h1 := names_fr hf hin (t := mpS f s) (fun j hj => mpS_bat f s j hj) s.size (Nat.le_refl _)
  have h2 : inA (mpS f a).data.toList (mpS f s) := fun j hj => by
    rw [mpS_size] at hj
    rw [mpS_bat _ _ _ hj]
    exact List.mem_map.2 ⟨_, hin j hj, rfl⟩
  rw [front_in (names_right hf hR) h2, mpS_size]
  show (plL (a.data.toList.map f) (mpS f s) s.size, (0 : Int)) = _
  rw [h1.2]
def mpL (y : UInt8) (s : ByteArray) (k : Nat) : List UInt8 := (s.data.toList.take k).map (xr y)
theorem mp_1 (y : UInt8) (s : ByteArray) (k : Nat) (h : k < s.size) : (mpL y s k).map B ++ [Value.int .u8 ((bat s (k : Int) ^^^ y).toNat : Int)] = (mpL y s (k + 1)).map B := by
  unfold mpL
  rw [take_snoc s.data.toList k 0 h]
  simp [B, xr, bat_list]
theorem mp_len (y : UInt8) (s : ByteArray) (k : Nat) (h : k ≤ s.size) : (mpL y s k).length = k := by
  have : s.data.toList.length = s.size := rfl
  unfold mpL
  rw [List.length_map, List.length_take]; omega
theorem mp_all (y : UInt8) (s : ByteArray) (k : Nat) (h : k = s.size) : (⟨(mpL y s k).toArray⟩ : ByteArray) = mpS (xr y) s := by
  subst h
  unfold mpL mpS
  rw [show s.data.toList.take s.size = s.data.toList from List.take_of_length_le (Nat.le_refl s.data.toList.length)]

set_option maxRecDepth 100000 in
set_option maxHeartbeats 1000000 in
theorem names_law (s0 : ByteArray) (hs0 : s0.size ≤ 9223372036854775807) (raw : List Int) (hraw : In64 raw) (lraw : raw.length ≤ 9223372036854775807) (y : UInt8) :
    FPure Try.prog 8 [Is (.string s0), Sl 1 raw.length (raw.map (Value.int .i64)), Is (.int .u8 (y.toNat : Int))] (Is (.bool true)) := by
  refine FPure.of Try.func8 Try.ntmps8 rfl (by kernel_rfl) rfl rfl rfl ?_
  refine W_seq ?_
  refine W_regionE (c := 1) (c' := 2) (by kernel_rfl) rfl ?_
  refine Runs_p rfl (Valid.assignk (A := Is _) rfl rfl) rfl rfl ?_ -- law.go:169 assign
  refine Runs_nil ?_
  refine thenQ_n ?_
  refine W_seq ?_
  refine W_regionE (c := 2) (c' := 4) (by kernel_rfl) rfl ?_
  refine Runs_p rfl (Valid.call rfl (awake_s) trivial) rfl rfl ?_ -- law.go:170 call
  refine Runs_p rfl (Valid.assignk (A := Is _) rfl rfl) rfl rfl ?_ -- law.go:170 assign
  refine Runs_nil ?_
  refine thenQ_n ?_
  refine W_seq ?_
  refine W_regionE (c := 4) (c' := 7) (by kernel_rfl) rfl ?_
  refine Runs_p rfl (Valid.movek (A := Is _) rfl rfl) rfl rfl ?_ -- law.go:171 move
  refine Runs_p rfl (Valid.call rfl (alph_s _ (by omega)) ⟨argle rfl, trivial⟩) rfl rfl ?_ -- law.go:171 call
  refine Runs_p rfl (Valid.assignk (A := Is _) rfl rfl) rfl rfl ?_ -- law.go:171 assign
  refine Runs_nil ?_
  refine thenQ_n ?_
  refine W_seq ?_
  refine W_regionE (c := 7) (c' := 11) (by kernel_rfl) rfl ?_
  refine Runs_p rfl (Valid.movek (A := Is _) rfl rfl) rfl rfl ?_ -- law.go:172 move
  refine Runs_p rfl (Valid.movek (A := Sl 1 _ _) rfl rfl) rfl rfl ?_ -- law.go:172 move
  refine Runs_p rfl (Valid.call rfl (text_s _ _ 100 (by have := alph_size s0 s0.size; unfold alphV; omega) hraw lraw (by decide)) ⟨argle rfl, argle_sl (Reads.sl rfl), argle rfl, trivial⟩) rfl rfl ?_ -- law.go:172 call
  refine Runs_p rfl (Valid.assignk (A := Is _) rfl rfl) rfl rfl ?_ -- law.go:172 assign
  refine Runs_nil ?_
  refine thenQ_n ?_
  refine W_seq ?_
  generalize hT : txtV (alphV s0) raw 100 = t
  have hin : inA (alphV s0).data.toList t := hT ▸ txt_in _ _ _
  have hts : t.size ≤ 100 := hT ▸ txt_size _ _ _
  have hR : RightP (alphV s0) := alph_right s0 s0.size
  have has : (alphV s0).size ≤ 30 := alph_size s0 s0.size
  generalize alphV s0 = a at *
  refine W_regionE (c := 11) (c' := 12) (by kernel_rfl) rfl ?_
  refine Runs_p rfl (Valid.assignk (A := Is (.slice none 0 0)) rfl rfl) rfl rfl ?_ -- law.go:173 assign
  refine Runs_nil ?_
  refine thenQ_n ?_
  refine W_seq ?_
  refine W_regionE (c := 12) (c' := 13) (by kernel_rfl) rfl ?_
  refine Runs_p rfl (Valid.assignk (A := Is (.slice none 0 0)) rfl rfl) rfl rfl ?_ -- law.go:174 assign
  refine Runs_nil ?_
  refine thenQ_n ?_
  refine W_seq ?_
  refine W_seq ?_
  refine W_regionE (c := 13) (c' := 14) (by kernel_rfl) rfl ?_
  refine Runs_p rfl (Valid.assignk (A := Is _) rfl rfl) rfl rfl ?_ -- law.go:175 assign
  refine Runs_nil ?_
  refine thenQ_n ?_
  refine W_block ?_
  refine W.ent ?_ (Ent.ownnil 10 5 1 rfl)
  refine W_loopx (G := Nat) (fun (i : Nat) => i ≤ a.size) [(2, Is _), (7, Is _), (8, Is _), (9, Is _), (11, Is (.slice none 0 0))] (fun (i : Nat) => [(12, Is (.int .i64 (i : Int))), (10, Own 112 1 i ((mpL y a i).map B))]) [] (fun (i : Nat) => [(112, .row 5 1 i ((mpL y a i).map B))]) 15 (fun (i : Nat) => a.size - i) (0) [] (by first | trivial | omega | (simp; omega)) ⟨⟨(leq_is rfl rfl (by first | rfl | exact mp_1 _ _ _ (by omega))), (leq_own rfl rfl rfl (by first | rfl | exact mp_1 _ _ _ (by omega)) (by first | rfl | exact mp_1 _ _ _ (by omega))), trivial⟩, ⟨(leq_is rfl rfl rfl), (leq_is rfl rfl rfl), (leq_is rfl rfl rfl), (leq_is rfl rfl rfl), (leq_is rfl rfl rfl), trivial⟩, ⟨hp_row rfl (by first | rfl | exact mp_1 _ _ _ (by omega)) (by first | rfl | exact mp_1 _ _ _ (by omega)), trivial⟩, trivial, rfl, ⟨supg rfl, supg rfl, trivial⟩, ⟨supg rfl, supg rfl, supg rfl, supg rfl, supg rfl, trivial⟩, ⟨suph rfl rfl, trivial⟩, trivial, rfl, rfl⟩ ?_
  intro i hI1
  refine W_seq ?_
  refine W_seq ?_
  refine W_regionE (c := 15) (c' := 19) (by kernel_rfl) rfl ?_
  refine Runs_p rfl (Valid.movek (A := Is _) rfl rfl) rfl rfl ?_ -- law.go:175 move
  refine Runs_p rfl (Valid.movek (A := Is _) rfl rfl) rfl rfl ?_ -- law.go:175 move
  refine Runs_p rfl (Valid.slen rfl Try.underlying9 rfl) rfl rfl ?_ -- law.go:175 call
  refine Runs_p rfl (Valid.lss rfl rfl rfl) rfl rfl ?_ -- law.go:175 binOp
  refine Runs_nil ?_
  refine thenQ_n ?_
  refine W_cond _ rfl (fun hb1 => ?_) (fun hb1 => ?_)
  · try simp only [decide_eq_true_eq] at hb1
    all_goals (
      refine W_skip ?_
      refine thenQ_n ?_
      refine W_seq ?_
      refine W_block ?_
      refine W_regionE (c := 19) (c' := 28) (by kernel_rfl) rfl ?_
      refine Runs_p rfl (Valid.movek (A := Own 112 1 _ _) rfl rfl) rfl rfl ?_ -- law.go:176 move
      refine Runs_p rfl (Valid.movek (A := Is _) rfl rfl) rfl rfl ?_ -- law.go:176 move
      refine Runs_p rfl (Valid.movek (A := Is _) rfl rfl) rfl rfl ?_ -- law.go:176 move
      refine Runs_p rfl (Valid.sindex rfl Try.underlying9 rfl rfl (by first | omega | (simp only [Int.toNat_natCast, toNat_add, toNat_add1, List.length_append, List.length_cons, List.length_nil, List.length_replicate]; omega))) rfl rfl ?_ -- law.go:176 index
      refine Runs_p rfl (Valid.movek (A := Is _) rfl rfl) rfl rfl ?_ -- law.go:176 move
      refine Runs_p rfl (Valid.bits rfl rfl rfl (fun w => xor_u8 _ _ w)) rfl rfl ?_ -- law.go:176 binOp
      refine Runs_p rfl (Valid.lit (el := 5) [_] rfl rfl (fun _ => by kernel_rfl) rfl (by decide)) rfl rfl ?_ -- law.go:176 buildSlice
      refine Runs_w rfl (Valid.app rfl Try.underlying40 ti5 (by decide) rfl rfl (Reads.sl rfl) (by first | exact one_map (fun _ => rfl) | exact one_cons rfl one_nil | exact one_app (one_map (fun _ => rfl)) (one_cons rfl one_nil) | exact one_app (one_map (fun _ => rfl)) (one_map (fun _ => rfl)) | exact one_rep rfl | exact one_app (one_rep rfl) (one_map (fun _ => rfl)) | (intro u hu; simp at hu; rcases hu with rfl | hu <;> first | rfl | (subst hu; rfl))) (by first | (simp only [maxLen]; omega) | (simp only [maxLen, Int.toNat_natCast, toNat_add, toNat_add1, List.length_append, List.length_cons, List.length_nil, List.length_replicate]; omega)) (by first | omega | (simp only [Int.toNat_natCast, toNat_add, toNat_add1, List.length_append, List.length_cons, List.length_nil, List.length_replicate]; omega))) rfl rfl ?_ -- law.go:176 call
      refine Runs_p rfl (Valid.assignk (A := Own 208 1 _ _) rfl rfl) rfl rfl ?_ -- law.go:176 assign
      refine Runs_nil ?_
      refine blockQ_n ?_
      refine thenQ_n ?_
      refine W_regionE (c := 28) (c' := 31) (by kernel_rfl) rfl ?_
      refine Runs_p rfl (Valid.movek (A := Is _) rfl rfl) rfl rfl ?_ -- law.go:175 move
      refine Runs_p rfl (Valid.add rfl rfl rfl (room64 (by first | omega | (simp only [Int.toNat_natCast, toNat_add, toNat_add1, List.length_append, List.length_cons, List.length_nil, List.length_replicate]; omega)) (by first | omega | (simp only [Int.toNat_natCast, toNat_add, toNat_add1, List.length_append, List.length_cons, List.length_nil, List.length_replicate]; omega)))) rfl rfl ?_ -- law.go:175 binOp
      refine Runs_p rfl (Valid.assignk (A := Is _) rfl rfl) rfl rfl ?_ -- law.go:175 assign
      refine Runs_nil ?_
      refine LoopQ.next (i + 1) [(112, 208)] (by omega) (by omega) ⟨⟨(leq_is rfl rfl (by first | rfl | exact mp_1 _ _ _ (by omega))), (leq_own rfl rfl rfl (by first | rfl | exact mp_1 _ _ _ (by omega)) (by first | rfl | exact mp_1 _ _ _ (by omega))), trivial⟩, ⟨(leq_is rfl rfl rfl), (leq_is rfl rfl rfl), (leq_is rfl rfl rfl), (leq_is rfl rfl rfl), (leq_is rfl rfl rfl), trivial⟩, ⟨hp_row rfl (by first | rfl | exact mp_1 _ _ _ (by omega)) (by first | rfl | exact mp_1 _ _ _ (by omega)), trivial⟩, trivial, rfl, ⟨supg rfl, supg rfl, trivial⟩, ⟨supg rfl, supg rfl, supg rfl, supg rfl, supg rfl, trivial⟩, ⟨suph rfl rfl, trivial⟩, trivial, rfl, rfl⟩
      done)
  · try simp only [decide_eq_false_iff_not] at hb1
    all_goals (
      refine W_exit ?_
      refine thenQ_e ?_
      refine loopQ_e ?_
      refine blockQ_x ?_
      refine thenQ_n ?_
      refine W_seq ?_
      refine W_seq ?_
      refine W_regionE (c := 19) (c' := 20) (by kernel_rfl) rfl ?_
      refine Runs_p rfl (Valid.assignk (A := Is _) rfl rfl) rfl rfl ?_ -- law.go:178 assign
      refine Runs_nil ?_
      refine thenQ_n ?_
      refine W_block ?_
      refine W.ent ?_ (Ent.ownnil 11 5 1 rfl)
      refine W_loopx (G := Nat) (fun (j : Nat) => j ≤ t.size) [(2, Is _), (7, Is _), (8, Is _), (9, Is _), (10, Own 112 1 _ _)] (fun (j : Nat) => [(13, Is (.int .i64 (j : Int))), (11, Own 160 1 j ((mpL y t j).map B))]) [(112, .row 5 1 _ _)] (fun (j : Nat) => [(160, .row 5 1 j ((mpL y t j).map B))]) 21 (fun (j : Nat) => t.size - j) (0) [] (by first | trivial | omega | (simp; omega)) ⟨⟨(leq_is rfl rfl (by first | rfl | exact mp_1 _ _ _ (by omega))), (leq_own rfl rfl rfl (by first | rfl | exact mp_1 _ _ _ (by omega)) (by first | rfl | exact mp_1 _ _ _ (by omega))), trivial⟩, ⟨(leq_is rfl rfl rfl), (leq_is rfl rfl rfl), (leq_is rfl rfl rfl), (leq_is rfl rfl rfl), (leq_own rfl rfl rfl rfl rfl), trivial⟩, ⟨hp_row rfl (by first | rfl | exact mp_1 _ _ _ (by omega)) (by first | rfl | exact mp_1 _ _ _ (by omega)), trivial⟩, ⟨hp_row rfl rfl rfl, trivial⟩, rfl, ⟨supg rfl, supg rfl, trivial⟩, ⟨supg rfl, supg rfl, supg rfl, supg rfl, supg rfl, trivial⟩, ⟨suph rfl rfl, trivial⟩, ⟨suph rfl rfl, trivial⟩, rfl, rfl⟩ ?_
      intro j hI2
      refine W_seq ?_
      refine W_seq ?_
      refine W_regionE (c := 21) (c' := 25) (by kernel_rfl) rfl ?_
      refine Runs_p rfl (Valid.movek (A := Is _) rfl rfl) rfl rfl ?_ -- law.go:178 move
      refine Runs_p rfl (Valid.movek (A := Is _) rfl rfl) rfl rfl ?_ -- law.go:178 move
      refine Runs_p rfl (Valid.slen rfl Try.underlying9 rfl) rfl rfl ?_ -- law.go:178 call
      refine Runs_p rfl (Valid.lss rfl rfl rfl) rfl rfl ?_ -- law.go:178 binOp
      refine Runs_nil ?_
      refine thenQ_n ?_
      refine W_cond _ rfl (fun hb2 => ?_) (fun hb2 => ?_)
      · try simp only [decide_eq_true_eq] at hb2
        all_goals (
          refine W_skip ?_
          refine thenQ_n ?_
          refine W_seq ?_
          refine W_block ?_
          refine W_regionE (c := 25) (c' := 34) (by kernel_rfl) rfl ?_
          refine Runs_p rfl (Valid.movek (A := Own 160 1 _ _) rfl rfl) rfl rfl ?_ -- law.go:179 move
          refine Runs_p rfl (Valid.movek (A := Is _) rfl rfl) rfl rfl ?_ -- law.go:179 move
          refine Runs_p rfl (Valid.movek (A := Is _) rfl rfl) rfl rfl ?_ -- law.go:179 move
          refine Runs_p rfl (Valid.sindex rfl Try.underlying9 rfl rfl (by first | omega | (simp only [Int.toNat_natCast, toNat_add, toNat_add1, List.length_append, List.length_cons, List.length_nil, List.length_replicate]; omega))) rfl rfl ?_ -- law.go:179 index
          refine Runs_p rfl (Valid.movek (A := Is _) rfl rfl) rfl rfl ?_ -- law.go:179 move
          refine Runs_p rfl (Valid.bits rfl rfl rfl (fun w => xor_u8 _ _ w)) rfl rfl ?_ -- law.go:179 binOp
          refine Runs_p rfl (Valid.lit (el := 5) [_] rfl rfl (fun _ => by kernel_rfl) rfl (by decide)) rfl rfl ?_ -- law.go:179 buildSlice
          refine Runs_w rfl (Valid.app rfl Try.underlying40 ti5 (by decide) rfl rfl (Reads.sl rfl) (by first | exact one_map (fun _ => rfl) | exact one_cons rfl one_nil | exact one_app (one_map (fun _ => rfl)) (one_cons rfl one_nil) | exact one_app (one_map (fun _ => rfl)) (one_map (fun _ => rfl)) | exact one_rep rfl | exact one_app (one_rep rfl) (one_map (fun _ => rfl)) | (intro u hu; simp at hu; rcases hu with rfl | hu <;> first | rfl | (subst hu; rfl))) (by first | (simp only [maxLen]; omega) | (simp only [maxLen, Int.toNat_natCast, toNat_add, toNat_add1, List.length_append, List.length_cons, List.length_nil, List.length_replicate]; omega)) (by first | omega | (simp only [Int.toNat_natCast, toNat_add, toNat_add1, List.length_append, List.length_cons, List.length_nil, List.length_replicate]; omega))) rfl rfl ?_ -- law.go:179 call
          refine Runs_p rfl (Valid.assignk (A := Own 256 1 _ _) rfl rfl) rfl rfl ?_ -- law.go:179 assign
          refine Runs_nil ?_
          refine blockQ_n ?_
          refine thenQ_n ?_
          refine W_regionE (c := 34) (c' := 37) (by kernel_rfl) rfl ?_
          refine Runs_p rfl (Valid.movek (A := Is _) rfl rfl) rfl rfl ?_ -- law.go:178 move
          refine Runs_p rfl (Valid.add rfl rfl rfl (room64 (by first | omega | (simp only [Int.toNat_natCast, toNat_add, toNat_add1, List.length_append, List.length_cons, List.length_nil, List.length_replicate]; omega)) (by first | omega | (simp only [Int.toNat_natCast, toNat_add, toNat_add1, List.length_append, List.length_cons, List.length_nil, List.length_replicate]; omega)))) rfl rfl ?_ -- law.go:178 binOp
          refine Runs_p rfl (Valid.assignk (A := Is _) rfl rfl) rfl rfl ?_ -- law.go:178 assign
          refine Runs_nil ?_
          refine LoopQ.next (j + 1) [(160, 256)] (by omega) (by omega) ⟨⟨(leq_is rfl rfl (by first | rfl | exact mp_1 _ _ _ (by omega))), (leq_own rfl rfl rfl (by first | rfl | exact mp_1 _ _ _ (by omega)) (by first | rfl | exact mp_1 _ _ _ (by omega))), trivial⟩, ⟨(leq_is rfl rfl rfl), (leq_is rfl rfl rfl), (leq_is rfl rfl rfl), (leq_is rfl rfl rfl), (leq_own rfl rfl rfl rfl rfl), trivial⟩, ⟨hp_row rfl (by first | rfl | exact mp_1 _ _ _ (by omega)) (by first | rfl | exact mp_1 _ _ _ (by omega)), trivial⟩, ⟨hp_row rfl rfl rfl, trivial⟩, rfl, ⟨supg rfl, supg rfl, trivial⟩, ⟨supg rfl, supg rfl, supg rfl, supg rfl, supg rfl, trivial⟩, ⟨suph rfl rfl, trivial⟩, ⟨suph rfl rfl, trivial⟩, rfl, rfl⟩
          done)
      · try simp only [decide_eq_false_iff_not] at hb2
        all_goals (
          refine W_exit ?_
          refine thenQ_e ?_
          refine loopQ_e ?_
          refine blockQ_x ?_
          refine thenQ_n ?_
          refine W_seq ?_
          have hF := front_in hR hin
          have hN := names (f := xr y) (fun _ _ h => xr_inj h) hR hin
          have hNR := names_right (f := xr y) (fun _ _ h => xr_inj h) hR
          rw [← mp_all y a i (by omega)] at hN hNR
          rw [← mp_all y t j (by omega)] at hN
          have hpl := plL_len a.data.toList t t.size
          have hz1 : (⟨(mpL y a i).toArray⟩ : ByteArray).size ≤ 30 := by rw [mp_all y a i (by omega), mpS_size]; omega
          have hz2 : (⟨(mpL y t j).toArray⟩ : ByteArray).size ≤ 100 := by rw [mp_all y t j (by omega), mpS_size]; omega
          refine W_regionE (c := 25) (c' := 33) (by kernel_rfl) rfl ?_
          refine Runs_p rfl (Valid.movek (A := Is _) rfl rfl) rfl rfl ?_ -- law.go:181 move
          refine Runs_p rfl (Valid.movek (A := Is _) rfl rfl) rfl rfl ?_ -- law.go:181 move
          refine Runs_p rfl (Valid.call rfl (front_t hF (by omega) (by omega)) ⟨argle rfl, argle rfl, trivial⟩) rfl rfl ?_ -- law.go:181 call
          refine Runs_p rfl (Valid.movek (A := Tup [Sl 1 _ _, Is _]) rfl rfl) rfl rfl ?_ -- law.go:181 move
          refine Runs_p rfl (Valid.extract _ rfl rfl rfl) rfl rfl ?_ -- law.go:181 extract
          refine Runs_p rfl (Valid.extract _ rfl rfl rfl) rfl rfl ?_ -- law.go:181 extract
          refine Runs_p rfl (Valid.assignk (A := Sl 1 _ _) rfl rfl) rfl rfl ?_ -- law.go:181 assign
          refine Runs_p rfl (Valid.assignk (A := Is _) rfl rfl) rfl rfl ?_ -- law.go:181 assign
          refine Runs_nil ?_
          refine thenQ_n ?_
          refine W_seq ?_
          refine W_regionE (c := 33) (c' := 43) (by kernel_rfl) rfl ?_
          refine Runs_p rfl (Valid.movek (A := Own 112 1 _ _) rfl rfl) rfl rfl ?_ -- law.go:182 move
          refine Runs_p rfl (Valid.tostring rfl Try.underlying40 Try.underlying5 Try.underlying9 (Reads.own rfl)) rfl rfl ?_ -- law.go:182 convert
          refine Runs_p rfl (Valid.movek (A := Own 160 1 _ _) rfl rfl) rfl rfl ?_ -- law.go:182 move
          refine Runs_p rfl (Valid.tostring rfl Try.underlying40 Try.underlying5 Try.underlying9 (Reads.own rfl)) rfl rfl ?_ -- law.go:182 convert
          refine Runs_p rfl (Valid.call rfl (front_t hN (by omega) (by omega)) ⟨argle rfl, argle rfl, trivial⟩) rfl rfl ?_ -- law.go:182 call
          refine Runs_p rfl (Valid.movek (A := Tup [Sl 1 _ _, Is _]) rfl rfl) rfl rfl ?_ -- law.go:182 move
          refine Runs_p rfl (Valid.extract _ rfl rfl rfl) rfl rfl ?_ -- law.go:182 extract
          refine Runs_p rfl (Valid.extract _ rfl rfl rfl) rfl rfl ?_ -- law.go:182 extract
          refine Runs_p rfl (Valid.assignk (A := Sl 1 _ _) rfl rfl) rfl rfl ?_ -- law.go:182 assign
          refine Runs_p rfl (Valid.assignk (A := Is _) rfl rfl) rfl rfl ?_ -- law.go:182 assign
          refine Runs_nil ?_
          refine thenQ_n ?_
          refine W_seq ?_
          refine W_regionE (c := 43) (c' := 63) (by kernel_rfl) rfl ?_
          refine Runs_p rfl (Valid.movek (A := Is _) rfl rfl) rfl rfl ?_ -- law.go:183 move
          refine Runs_p rfl (Valid.movek (A := Is _) rfl rfl) rfl rfl ?_ -- law.go:183 move
          refine Runs_cnd rfl rfl (Grd.is rfl) [] (fun hg => trivial) (fun hg => Valid.movek (A := Is _) rfl rfl) (by rfl) rfl ?_
          refine Runs_cnd rfl rfl (Grd.is rfl) [(68, _)] (fun hg => ⟨cnd_at rfl (by first | exact hg | exact hg.1 | exact hg.1.1 | exact hg.1.1.1), trivial⟩) (fun hg => Valid.eql rfl rfl rfl) (by rfl) rfl ?_
          refine Runs_p rfl (Valid.pickand rfl rfl rfl (fun h => by first | exact h | exact ⟨hg, h⟩) rfl) rfl rfl ?_ -- law.go:183 pick
          refine Runs_p rfl (Valid.movek (A := Is _) rfl rfl) rfl rfl ?_ -- law.go:183 move
          refine Runs_cnd rfl rfl (Grd.is rfl) [] (fun hg => trivial) (fun hg => Valid.movek (A := Is _) rfl rfl) (by rfl) rfl ?_
          refine Runs_cnd rfl rfl (Grd.is rfl) [(72, _)] (fun hg => ⟨cnd_at rfl (by first | exact hg | exact hg.1 | exact hg.1.1 | exact hg.1.1.1), trivial⟩) (fun hg => Valid.eql rfl rfl rfl) (by rfl) rfl ?_
          refine Runs_p rfl (Valid.pickand rfl rfl rfl (fun h => by first | exact h | exact ⟨hg, h⟩) rfl) rfl rfl ?_ -- law.go:183 pick
          refine Runs_p rfl (Valid.movek (A := Is _) rfl rfl) rfl rfl ?_ -- law.go:183 move
          refine Runs_cnd rfl rfl (Grd.is rfl) [] (fun hg => trivial) (fun hg => Valid.movek (A := Sl 1 _ _) rfl rfl) (by rfl) rfl ?_
          refine Runs_cnd rfl rfl (Grd.is rfl) [] (fun hg => trivial) (fun hg => Valid.movek (A := Sl 1 _ _) rfl rfl) (by rfl) rfl ?_
          refine Runs_cnd rfl rfl (Grd.is rfl) [(76, _), (77, _)] (fun hg => ⟨cnd_at rfl (by first | exact hg | exact hg.1 | exact hg.1.1 | exact hg.1.1.1), cnd_at rfl (by first | exact hg | exact hg.1 | exact hg.1.1 | exact hg.1.1.1), trivial⟩) (fun hg => Valid.call rfl (ksame (plL a.data.toList t t.size) (by (try simp only [decide_eq_true_eq, Bool.and_eq_true] at hg); omega)) ⟨argle_sl (Reads.sl rfl), argle_sl (Reads.sl rfl), trivial⟩) (by rfl) rfl ?_
          refine Runs_p rfl (Valid.pickand rfl rfl rfl (fun h => by first | exact h | exact ⟨hg, h⟩) rfl) rfl rfl ?_ -- law.go:183 pick
          refine Runs_p rfl (Valid.movek (A := Is _) rfl rfl) rfl rfl ?_ -- law.go:183 move
          refine Runs_cnd rfl rfl (Grd.is rfl) [] (fun hg => trivial) (fun hg => Valid.moveS rfl (Reads.own rfl)) (by rfl) rfl ?_
          refine Runs_cnd rfl rfl (Grd.is rfl) [(81, _)] (fun hg => ⟨cnd_at rfl (by first | exact hg | exact hg.1 | exact hg.1.1 | exact hg.1.1.1), trivial⟩) (fun hg => Valid.tostring rfl Try.underlying40 Try.underlying5 Try.underlying9 (Reads.sl rfl)) (by rfl) rfl ?_
          refine Runs_cnd rfl rfl (Grd.is rfl) [(82, _)] (fun hg => ⟨cnd_at rfl (by first | exact hg | exact hg.1 | exact hg.1.1 | exact hg.1.1.1), trivial⟩) (fun hg => Valid.call rfl (right_s _ (by (try simp only [decide_eq_true_eq, Bool.and_eq_true] at hg); omega)) ⟨argle rfl, trivial⟩) (by rfl) rfl ?_
          refine Runs_p rfl (Valid.pickand rfl rfl rfl (fun h => by first | exact h | exact ⟨hg, h⟩) rfl) rfl rfl ?_ -- law.go:183 pick
          refine Runs_p rfl (Valid.assignk (A := Is _) rfl rfl) rfl rfl ?_ -- law.go:183 assign
          refine Runs_nil ?_
          refine thenQ_n ?_
          refine W_ret ?_
          refine finQ_r ?_
          refine ResOk.one rfl (RVal.is rfl rfl (by simp [hNR]))
          done)
      done)

/-! what comes again -/
/-- the unlike bytes ahead of a place, the nearest ones first -/
def DL (s : ByteArray) (i : Nat) : Nat → List UInt8
  | 0 => []
  | d + 1 => if bat s ((i - 1 - d : Nat) : Int) ∈ DL s i d then DL s i d else DL s i d ++ [bat s ((i - 1 - d : Nat) : Int)]
  termination_by d => d
theorem DL_0 (s : ByteArray) (i : Nat) : DL s i 0 = [] := by rw [DL]
theorem DL_y {s : ByteArray} {i d : Nat} (h : bat s ((i - 1 - d : Nat) : Int) ∈ DL s i d) : DL s i (d + 1) = DL s i d := by rw [DL, if_pos h]
theorem DL_n {s : ByteArray} {i d : Nat} (h : ¬ bat s ((i - 1 - d : Nat) : Int) ∈ DL s i d) : DL s i (d + 1) = DL s i d ++ [bat s ((i - 1 - d : Nat) : Int)] := by rw [DL, if_neg h]
theorem DL_mem (s : ByteArray) (i : Nat) : ∀ d c, c ∈ DL s i d ↔ ∃ e, e < d ∧ bat s ((i - 1 - e : Nat) : Int) = c
  | 0, c => by rw [DL_0]; simp
  | d + 1, c => by
    have ih := DL_mem s i d c
    by_cases h : bat s ((i - 1 - d : Nat) : Int) ∈ DL s i d
    · rw [DL_y h, ih]
      constructor
      · rintro ⟨e, h1, h2⟩; exact ⟨e, by omega, h2⟩
      · rintro ⟨e, h1, h2⟩
        by_cases e2 : e = d
        · subst e2; rw [h2] at h; exact ih.1 h
        · exact ⟨e, by omega, h2⟩
    · rw [DL_n h, List.mem_append, ih, List.mem_singleton]
      constructor
      · rintro (⟨e, h1, h2⟩ | h2)
        · exact ⟨e, by omega, h2⟩
        · exact ⟨d, by omega, h2.symm⟩
      · rintro ⟨e, h1, h2⟩
        by_cases e2 : e = d
        · subst e2; exact .inr h2.symm
        · exact .inl ⟨e, by omega, h2⟩
theorem DL_nodup (s : ByteArray) (i : Nat) : ∀ d, (DL s i d).Nodup
  | 0 => by rw [DL_0]; exact List.nodup_nil
  | d + 1 => by
    have ih := DL_nodup s i d
    by_cases h : bat s ((i - 1 - d : Nat) : Int) ∈ DL s i d
    · rw [DL_y h]; exact ih
    · rw [DL_n h]
      exact List.nodup_append.2 ⟨ih, by simp, fun a ha b hb e => by
        rw [List.mem_singleton] at hb
        subst hb; subst e; exact h ha⟩
theorem DL_len (s : ByteArray) (i : Nat) : ∀ d, (DL s i d).length ≤ d
  | 0 => by rw [DL_0]; exact Nat.le_refl _
  | d + 1 => by
    have ih := DL_len s i d
    by_cases h : bat s ((i - 1 - d : Nat) : Int) ∈ DL s i d
    · rw [DL_y h]; omega
    · rw [DL_n h, List.length_append]; simp; omega
theorem DL_next (s : ByteArray) (i : Nat) : ∀ d, d ≤ i → DL s (i + 1) (d + 1) = bat s (i : Int) :: (DL s i d).filter (fun c => c != bat s (i : Int))
  | 0, _ => by
    rw [DL_n (by rw [DL_0]; simp), DL_0, DL_0]; rfl
  | d + 1, h => by
    have ih := DL_next s i d (by omega)
    have e : i + 1 - 1 - (d + 1) = i - 1 - d := by omega
    by_cases h1 : bat s ((i - 1 - d : Nat) : Int) ∈ DL s i d
    · rw [DL_y h1]
      by_cases h2 : bat s ((i - 1 - d : Nat) : Int) = bat s (i : Int)
      · rw [DL_y (by rw [e, ih, h2]; simp), ih]
      · rw [DL_y (by rw [e, ih]; simp [h1, h2]), ih]
    · rw [DL_n h1]
      by_cases h2 : bat s ((i - 1 - d : Nat) : Int) = bat s (i : Int)
      · rw [DL_y (by rw [e, ih, h2]; simp), ih, h2]; simp
      · rw [DL_n (by rw [e, ih]; simp [h1, h2]), ih, e]; simp [h2]
theorem mtf_filter {l : List UInt8} (hn : l.Nodup) {p : Nat} (hp : p < l.length) : mtf l p = l.getD p 0 :: l.filter (fun c => c != l.getD p 0) := by
  have e : l = l.take p ++ l.getD p 0 :: l.drop (p + 1) := by
    rw [getD_lt l p 0 hp, ← List.drop_eq_getElem_cons hp, List.take_append_drop]
  unfold mtf
  congr 1
  generalize l.getD p 0 = c at *
  generalize l.take p = x at *
  generalize l.drop (p + 1) = z at *
  subst e
  rw [List.nodup_append] at hn
  obtain ⟨_, h2, h3⟩ := hn
  rw [List.nodup_cons] at h2
  rw [List.filter_append, List.filter_cons_of_neg (by simp), List.filter_eq_self.2 (fun u hu => ?_), List.filter_eq_self.2 (fun u hu => ?_)]
  · have : u ≠ c := fun e => h2.1 (e ▸ hu)
    simp [this]
  · have : u ≠ c := h3 u hu c (by simp)
    simp [this]
theorem DL_pre {l : List UInt8} (hn : l.Nodup) {s : ByteArray} (hin : inA l s) : ∀ i, i ≤ s.size → ∀ d, d ≤ i → DL s i d <+: frL l s i
  | 0, _, d, hd => by
    obtain rfl : d = 0 := by omega
    rw [DL_0]; exact List.nil_prefix
  | i + 1, hi, 0, _ => by rw [DL_0]; exact List.nil_prefix
  | i + 1, hi, d + 1, hd => by
    have ih := DL_pre hn hin i (by omega) d (by omega)
    have hp := frL_perm (l := l) (s := s) i (fun j hj => hin j (by omega))
    have h0 := ok_in hin i (by omega)
    have hlt := idx_lt (frL l s i) (bat s (i : Int))
    have ha := (idx_at h0).1
    rw [DL_next s i d (by omega), frL, mtf_filter (hp.nodup_iff.2 hn) (by omega), ha]
    exact List.cons_prefix_cons.2 ⟨rfl, ih.filter _⟩
theorem again {l : List UInt8} (hn : l.Nodup) {s : ByteArray} (hin : inA l s) {i d : Nat} (hi : i < s.size) (hd : d ≤ i) (hne : ∀ e, e < d → bat s ((i - 1 - e : Nat) : Int) ≠ bat s (i : Int)) :
    (d < i → bat s ((i - 1 - d : Nat) : Int) = bat s (i : Int) → idx (frL l s i) (bat s (i : Int)) = ((DL s i d).length : Int)) ∧ ((DL s i d).length : Int) ≤ idx (frL l s i) (bat s (i : Int)) := by
  have hp := frL_perm (l := l) (s := s) i (fun j hj => hin j (by omega))
  have hnF := hp.nodup_iff.2 hn
  have hnm : bat s (i : Int) ∉ DL s i d := fun h => by
    obtain ⟨e, h1, h2⟩ := (DL_mem s i d _).1 h
    exact hne e h1 h2
  refine ⟨fun h1 h2 => ?_, ?_⟩
  · have hpre := DL_pre hn hin i (by omega) (d + 1) (by omega)
    rw [DL_n (by rw [h2]; exact hnm), h2] at hpre
    obtain ⟨r, hr⟩ := hpre
    rw [List.append_assoc, List.singleton_append] at hr
    rw [← hr] at hnF ⊢
    exact idx_app hnF
  · obtain ⟨r, hr⟩ := DL_pre hn hin i (by omega) d hd
    have h0 := ok_in hin i hi
    have ha := (idx_at h0).1
    refine Classical.byContradiction fun hc => hnm ?_
    rw [← hr] at ha h0 hc
    rw [List.getD_eq_getElem?_getD, List.getElem?_append_left (by omega), ← List.getD_eq_getElem?_getD, getD_lt _ _ _ (by omega)] at ha
    rw [← ha]; exact List.getElem_mem _
def dS (s : ByteArray) (i d : Nat) : ByteArray := ⟨(DL s i d).toArray⟩
theorem dS_0 (s : ByteArray) (i : Nat) : dS s i 0 = ByteArray.empty := by unfold dS; rw [DL_0]; rfl
theorem dS_right {s : ByteArray} {i d : Nat} (k : Int) (hk : k = ((i - 1 - d : Nat) : Int)) (hks : k < s.size) : RightP (dS s i d ++ s.extract k.toNat (k + 1).toNat) ↔ bat s ((i - 1 - d : Nat) : Int) ∉ DL s i d := by
  have e : (dS s i d ++ s.extract k.toNat (k + 1).toNat).data.toList = DL s i d ++ [bat s k] := by
    rw [ByteArray.data_append, Array.toList_append, ext_one s k (by omega) hks]; rfl
  have hn := DL_nodup s i d
  rw [← hk]
  constructor
  · intro h hm
    have := right_nodup h
    rw [e, List.nodup_append] at this
    exact this.2.2 _ hm _ (by simp) rfl
  · intro h
    refine nodup_right ?_
    rw [e, List.nodup_append]
    exact ⟨hn, by simp, fun a ha b hb e2 => by
      rw [List.mem_singleton] at hb
      subst hb; subst e2; exact h ha⟩
theorem dS_y {s : ByteArray} {i d : Nat} (k : Int) (hk : k = ((i - 1 - d : Nat) : Int)) (hks : k < s.size) (hR : RightP (dS s i d ++ s.extract k.toNat (k + 1).toNat)) : dS s i d ++ s.extract k.toNat (k + 1).toNat = dS s i (d + 1) := by
  have hm := (dS_right k hk hks).1 hR
  apply ba_ext
  rw [ByteArray.data_append, Array.toList_append, ext_one s k (by omega) hks]
  show DL s i d ++ [bat s k] = DL s i (d + 1)
  rw [DL_n hm, hk]
theorem dS_n {s : ByteArray} {i d : Nat} (k : Int) (hk : k = ((i - 1 - d : Nat) : Int)) (hks : k < s.size) (hR : ¬ RightP (dS s i d ++ s.extract k.toNat (k + 1).toNat)) : dS s i d = dS s i (d + 1) := by
  unfold dS
  rw [DL_y (Classical.byContradiction fun h => hR ((dS_right k hk hks).2 h))]
theorem dS_size (s : ByteArray) (i d : Nat) : (dS s i d).size ≤ d := DL_len s i d

set_option maxRecDepth 100000 in
set_option maxHeartbeats 1000000 in
theorem again_law (s0 : ByteArray) (hs0 : s0.size ≤ 9223372036854775807) (raw : List Int) (hraw : In64 raw) (lraw : raw.length ≤ 9223372036854775807) :
    FPure Try.prog 6 [Is (.string s0), Sl 1 raw.length (raw.map (Value.int .i64))] (Is (.bool true)) := by
  refine FPure.of Try.func6 Try.ntmps6 rfl (by kernel_rfl) rfl rfl rfl ?_
  refine W_seq ?_
  refine W_regionE (c := 1) (c' := 2) (by kernel_rfl) rfl ?_
  refine Runs_p rfl (Valid.assignk (A := Is _) rfl rfl) rfl rfl ?_ -- law.go:126 assign
  refine Runs_nil ?_
  refine thenQ_n ?_
  refine W_seq ?_
  refine W_regionE (c := 2) (c' := 4) (by kernel_rfl) rfl ?_
  refine Runs_p rfl (Valid.call rfl (awake_s) trivial) rfl rfl ?_ -- law.go:127 call
  refine Runs_p rfl (Valid.assignk (A := Is _) rfl rfl) rfl rfl ?_ -- law.go:127 assign
  refine Runs_nil ?_
  refine thenQ_n ?_
  refine W_seq ?_
  refine W_regionE (c := 4) (c' := 7) (by kernel_rfl) rfl ?_
  refine Runs_p rfl (Valid.movek (A := Is _) rfl rfl) rfl rfl ?_ -- law.go:128 move
  refine Runs_p rfl (Valid.call rfl (alph_s _ (by omega)) ⟨argle rfl, trivial⟩) rfl rfl ?_ -- law.go:128 call
  refine Runs_p rfl (Valid.assignk (A := Is _) rfl rfl) rfl rfl ?_ -- law.go:128 assign
  refine Runs_nil ?_
  refine thenQ_n ?_
  refine W_seq ?_
  refine W_regionE (c := 7) (c' := 11) (by kernel_rfl) rfl ?_
  refine Runs_p rfl (Valid.movek (A := Is _) rfl rfl) rfl rfl ?_ -- law.go:129 move
  refine Runs_p rfl (Valid.movek (A := Sl 1 _ _) rfl rfl) rfl rfl ?_ -- law.go:129 move
  refine Runs_p rfl (Valid.call rfl (text_s _ _ 80 (by have := alph_size s0 s0.size; unfold alphV; omega) hraw lraw (by decide)) ⟨argle rfl, argle_sl (Reads.sl rfl), argle rfl, trivial⟩) rfl rfl ?_ -- law.go:129 call
  refine Runs_p rfl (Valid.assignk (A := Is _) rfl rfl) rfl rfl ?_ -- law.go:129 assign
  refine Runs_nil ?_
  refine thenQ_n ?_
  refine W_seq ?_
  generalize hT : txtV (alphV s0) raw 80 = t
  have hin : inA (alphV s0).data.toList t := hT ▸ txt_in _ _ _
  have hts : t.size ≤ 80 := hT ▸ txt_size _ _ _
  have hR : RightP (alphV s0) := alph_right s0 s0.size
  have has : (alphV s0).size ≤ 30 := alph_size s0 s0.size
  generalize alphV s0 = a at *
  have hF := front_in hR hin
  have hpl := plL_len a.data.toList t t.size
  refine W_regionE (c := 11) (c' := 19) (by kernel_rfl) rfl ?_
  refine Runs_p rfl (Valid.movek (A := Is _) rfl rfl) rfl rfl ?_ -- law.go:130 move
  refine Runs_p rfl (Valid.movek (A := Is _) rfl rfl) rfl rfl ?_ -- law.go:130 move
  refine Runs_p rfl (Valid.call rfl (front_t hF (by omega) (by omega)) ⟨argle rfl, argle rfl, trivial⟩) rfl rfl ?_ -- law.go:130 call
  refine Runs_p rfl (Valid.movek (A := Tup [Sl 1 _ _, Is _]) rfl rfl) rfl rfl ?_ -- law.go:130 move
  refine Runs_p rfl (Valid.extract _ rfl rfl rfl) rfl rfl ?_ -- law.go:130 extract
  refine Runs_p rfl (Valid.extract _ rfl rfl rfl) rfl rfl ?_ -- law.go:130 extract
  refine Runs_p rfl (Valid.assignk (A := Sl 1 _ _) rfl rfl) rfl rfl ?_ -- law.go:130 assign
  refine Runs_p rfl (Valid.assignk (A := Is _) rfl rfl) rfl rfl ?_ -- law.go:130 assign
  refine Runs_nil ?_
  refine thenQ_n ?_
  refine W_seq ?_
  refine W_seq ?_
  refine W_regionE (c := 19) (c' := 28) (by kernel_rfl) rfl ?_
  refine Runs_p rfl (Valid.movek (A := Is _) rfl rfl) rfl rfl ?_ -- law.go:131 move
  refine Runs_p rfl (Valid.neq rfl rfl rfl) rfl rfl ?_ -- law.go:131 binOp
  refine Runs_p rfl (Valid.movek (A := Is _) rfl rfl) rfl rfl ?_ -- law.go:131 move
  refine Runs_cnd rfl rfl (Grd.is rfl) [] (fun hg => trivial) (fun hg => Valid.movek (A := Sl 1 _ _) rfl rfl) (by rfl) rfl ?_
  refine Runs_cnd rfl rfl (Grd.is rfl) [(28, _)] (fun hg => ⟨cnd_at rfl (by first | exact hg | exact hg.1 | exact hg.1.1 | exact hg.1.1.1), trivial⟩) (fun hg => Valid.len rfl Try.underlying22 (Reads.sl rfl)) (by rfl) rfl ?_
  refine Runs_cnd rfl rfl (Grd.is rfl) [] (fun hg => trivial) (fun hg => Valid.movek (A := Is _) rfl rfl) (by rfl) rfl ?_
  refine Runs_cnd rfl rfl (Grd.is rfl) [(30, _)] (fun hg => ⟨cnd_at rfl (by first | exact hg | exact hg.1 | exact hg.1.1 | exact hg.1.1.1), trivial⟩) (fun hg => Valid.slen rfl Try.underlying9 rfl) (by rfl) rfl ?_
  refine Runs_cnd rfl rfl (Grd.is rfl) [(29, _), (31, _)] (fun hg => ⟨cnd_at rfl (by first | exact hg | exact hg.1 | exact hg.1.1 | exact hg.1.1.1), cnd_at rfl (by first | exact hg | exact hg.1 | exact hg.1.1 | exact hg.1.1.1), trivial⟩) (fun hg => Valid.neq rfl rfl rfl) (by rfl) rfl ?_
  refine Runs_p rfl (Valid.pickor rfl rfl rfl rfl (fun h => by first | exact h | exact ⟨hg, h⟩)) rfl rfl ?_ -- law.go:131 pick
  refine Runs_nil ?_
  refine thenQ_n ?_
  refine W_cond _ rfl (fun hb1 => ?_) (fun hb1 => ?_)
  · try simp only [decide_eq_true_eq, Bool.or_eq_true, not_true_eq_false, ne_eq] at hb1
    all_goals (
      exfalso
      simp [hpl] at hb1
      
      done)
  · try simp only [decide_eq_false_iff_not, Bool.or_eq_false_iff, not_true_eq_false, not_false_eq_true, ne_eq] at hb1
    all_goals (
      refine W_skip ?_
      refine thenQ_n ?_
      refine W_seq ?_
      refine W_seq ?_
      refine W_regionE (c := 28) (c' := 29) (by kernel_rfl) rfl ?_
      refine Runs_p rfl (Valid.assignk (A := Is _) rfl rfl) rfl rfl ?_ -- law.go:134 assign
      refine Runs_nil ?_
      refine thenQ_n ?_
      refine W_block ?_
      refine W_loopx (G := Nat) (fun (i : Nat) => i ≤ t.size) [(5, Is _), (6, Is _), (7, Is _), (8, Sl 1 _ _)] (fun (i : Nat) => [(10, Is (.int .i64 (i : Int)))]) [] (fun (i : Nat) => []) 29 (fun (i : Nat) => t.size - i) (0) [] (by first | trivial | omega | (simp; omega)) ⟨⟨(leq_is rfl rfl (by first | rfl | (simp; done) | omega | (simp [toNat_add, toNat_add1, Nat.add_assoc]; done) | (simp [toNat_add, toNat_add1]; omega))), trivial⟩, ⟨(leq_is rfl rfl rfl), (leq_is rfl rfl rfl), (leq_is rfl rfl rfl), (leq_sl (Reads.sl rfl) rfl rfl rfl), trivial⟩, trivial, trivial, rfl, ⟨supg rfl, trivial⟩, ⟨supg rfl, supg rfl, supg rfl, supg rfl, trivial⟩, trivial, trivial, rfl, rfl⟩ ?_
      intro i hI1
      refine W_seq ?_
      refine W_seq ?_
      refine W_regionE (c := 29) (c' := 33) (by kernel_rfl) rfl ?_
      refine Runs_p rfl (Valid.movek (A := Is _) rfl rfl) rfl rfl ?_ -- law.go:134 move
      refine Runs_p rfl (Valid.movek (A := Is _) rfl rfl) rfl rfl ?_ -- law.go:134 move
      refine Runs_p rfl (Valid.slen rfl Try.underlying9 rfl) rfl rfl ?_ -- law.go:134 call
      refine Runs_p rfl (Valid.lss rfl rfl rfl) rfl rfl ?_ -- law.go:134 binOp
      refine Runs_nil ?_
      refine thenQ_n ?_
      refine W_cond _ rfl (fun hb2 => ?_) (fun hb2 => ?_)
      · try simp only [decide_eq_true_eq] at hb2
        all_goals (
          refine W_skip ?_
          refine thenQ_n ?_
          refine W_seq ?_
          refine W_block ?_
          refine W_seq ?_
          refine W_regionE (c := 33) (c' := 34) (by kernel_rfl) rfl ?_
          refine Runs_p rfl (Valid.assignk (A := Is _) rfl rfl) rfl rfl ?_ -- law.go:135 assign
          refine Runs_nil ?_
          refine thenQ_n ?_
          refine W_seq ?_
          refine W_regionE (c := 34) (c' := 37) (by kernel_rfl) rfl ?_
          refine Runs_p rfl (Valid.movek (A := Is _) rfl rfl) rfl rfl ?_ -- law.go:136 move
          refine Runs_p rfl (Valid.sub rfl rfl rfl (room64 (by first | omega | (simp only [Int.toNat_natCast, toNat_add, toNat_add1, List.length_append, List.length_cons, List.length_nil, List.length_replicate]; omega)) (by first | omega | (simp only [Int.toNat_natCast, toNat_add, toNat_add1, List.length_append, List.length_cons, List.length_nil, List.length_replicate]; omega)))) rfl rfl ?_ -- law.go:136 binOp
          refine Runs_p rfl (Valid.assignk (A := Is _) rfl rfl) rfl rfl ?_ -- law.go:136 assign
          refine Runs_nil ?_
          refine thenQ_n ?_
          refine W_seq ?_
          refine W_block ?_
          refine W_loopx (G := Nat) (fun (d : Nat) => d ≤ i ∧ ∀ e, e < d → bat t ((i - 1 - e : Nat) : Int) ≠ bat t (i : Int)) [(5, Is _), (6, Is _), (7, Is _), (8, Sl 1 _ _), (10, Is _)] (fun (d : Nat) => [(11, Is (.string (dS t i d))), (12, Is (.int .i64 ((i : Int) - 1 - (d : Int))))]) [] (fun (d : Nat) => []) 37 (fun (d : Nat) => i - d) (0) [] (⟨by omega, fun e he => by omega⟩) ⟨⟨(leq_is rfl rfl (by first | rfl | exact congrArg Value.string (dS_0 _ _).symm | exact congrArg (Value.int .i64) (by omega))), (leq_is rfl rfl (by first | rfl | exact congrArg Value.string (dS_0 _ _).symm | exact congrArg (Value.int .i64) (by omega))), trivial⟩, ⟨(leq_is rfl rfl rfl), (leq_is rfl rfl rfl), (leq_is rfl rfl rfl), (leq_sl (Reads.sl rfl) rfl rfl rfl), (leq_is rfl rfl rfl), trivial⟩, trivial, trivial, rfl, ⟨supg rfl, supg rfl, trivial⟩, ⟨supg rfl, supg rfl, supg rfl, supg rfl, supg rfl, trivial⟩, trivial, trivial, rfl, rfl⟩ ?_
          intro d hI2
          obtain ⟨hd1, hd2⟩ := hI2
          have hds := dS_size t i d
          have hkk : d < i → ((i - 1 - d : Nat) : Int) = (i : Int) - 1 - d := fun h => by omega
          refine W_seq ?_
          refine W_seq ?_
          refine W_drawE (c := 37) (c' := 48) (by kernel_rfl) rfl ?_
          refine Runs_p rfl (Valid.movek (A := Is _) rfl rfl) rfl rfl ?_ -- law.go:137 move
          refine Runs_p rfl (Valid.geq rfl rfl rfl) rfl rfl ?_ -- law.go:137 binOp
          refine Runs_p rfl (Valid.movek (A := Is _) rfl rfl) rfl rfl ?_ -- law.go:137 move
          refine Runs_cnd rfl rfl (Grd.is rfl) [] (fun hg => trivial) (fun hg => Valid.movek (A := Is _) rfl rfl) (by rfl) rfl ?_
          refine Runs_cnd rfl rfl (Grd.is rfl) [] (fun hg => trivial) (fun hg => Valid.movek (A := Is _) rfl rfl) (by rfl) rfl ?_
          refine Runs_cnd rfl rfl (Grd.is rfl) [(45, _), (46, _)] (fun hg => ⟨cnd_at rfl (by first | exact hg | exact hg.1 | exact hg.1.1 | exact hg.1.1.1), cnd_at rfl (by first | exact hg | exact hg.1 | exact hg.1.1 | exact hg.1.1.1), trivial⟩) (fun hg => Valid.sindex rfl Try.underlying9 rfl rfl (by (try simp only [decide_eq_true_eq] at hg); first | omega | (simp only [Int.toNat_natCast, toNat_add, toNat_add1, List.length_append, List.length_cons, List.length_nil, List.length_replicate]; omega))) (by rfl) rfl ?_
          refine Runs_cnd rfl rfl (Grd.is rfl) [] (fun hg => trivial) (fun hg => Valid.movek (A := Is _) rfl rfl) (by rfl) rfl ?_
          refine Runs_cnd rfl rfl (Grd.is rfl) [] (fun hg => trivial) (fun hg => Valid.movek (A := Is _) rfl rfl) (by rfl) rfl ?_
          refine Runs_cnd rfl rfl (Grd.is rfl) [(48, _), (49, _)] (fun hg => ⟨cnd_at rfl (by first | exact hg | exact hg.1 | exact hg.1.1 | exact hg.1.1.1), cnd_at rfl (by first | exact hg | exact hg.1 | exact hg.1.1 | exact hg.1.1.1), trivial⟩) (fun hg => Valid.sindex rfl Try.underlying9 rfl rfl (by (try simp only [decide_eq_true_eq] at hg); first | omega | (simp only [Int.toNat_natCast, toNat_add, toNat_add1, List.length_append, List.length_cons, List.length_nil, List.length_replicate]; omega))) (by rfl) rfl ?_
          refine Runs_cnd rfl rfl (Grd.is rfl) [(47, _), (50, _)] (fun hg => ⟨cnd_at rfl (by first | exact hg | exact hg.1 | exact hg.1.1 | exact hg.1.1.1), cnd_at rfl (by first | exact hg | exact hg.1 | exact hg.1.1 | exact hg.1.1.1), trivial⟩) (fun hg => Valid.neq rfl rfl rfl) (by rfl) rfl ?_
          refine Runs_p rfl (Valid.pickand rfl rfl rfl (fun h => by first | exact h | exact ⟨hg, h⟩) rfl) rfl rfl ?_ -- law.go:137 pick
          refine Runs_nil ?_
          refine ⟨_, _, rfl, rfl, by kernel_rfl, ?_⟩
          refine thenQ_n ?_
          refine W_cond _ rfl (fun hb3 => ?_) (fun hb3 => ?_)
          · try simp only [decide_eq_true_eq, Bool.and_eq_true, ne_eq] at hb3
            all_goals (
              refine W_skip ?_
              refine thenQ_n ?_
              refine W_block ?_
              refine W_seq ?_
              refine W_seq ?_
              refine W_regionE (c := 48) (c' := 56) (by kernel_rfl) rfl ?_
              refine Runs_p rfl (Valid.movek (A := Is _) rfl rfl) rfl rfl ?_ -- law.go:138 move
              refine Runs_p rfl (Valid.movek (A := Is _) rfl rfl) rfl rfl ?_ -- law.go:138 move
              refine Runs_p rfl (Valid.movek (A := Is _) rfl rfl) rfl rfl ?_ -- law.go:138 move
              refine Runs_p rfl (Valid.movek (A := Is _) rfl rfl) rfl rfl ?_ -- law.go:138 move
              refine Runs_p rfl (Valid.add rfl rfl rfl (room64 (by first | omega | (simp only [ByteArray.size_extract]; omega) | (simp only [maxLen, ByteArray.size_extract]; omega)) (by first | omega | (simp only [ByteArray.size_extract]; omega) | (simp only [maxLen, ByteArray.size_extract]; omega)))) rfl rfl ?_ -- law.go:138 binOp
              refine Runs_p rfl (Valid.sslice rfl Try.underlying9 rfl rfl rfl (by first | omega | (simp only [Int.toNat_natCast, toNat_add, toNat_add1, List.length_append, List.length_cons, List.length_nil, List.length_replicate]; omega))) rfl rfl ?_ -- law.go:138 slice
              refine Runs_p rfl (Valid.cat rfl rfl rfl (by first | omega | (simp only [ByteArray.size_extract]; omega) | (simp only [maxLen, ByteArray.size_extract]; omega))) rfl rfl ?_ -- law.go:138 binOp
              refine Runs_p rfl (Valid.call rfl (rright_s _ (by rw [ByteArray.size_append, ByteArray.size_extract]; omega)) ⟨argle rfl, trivial⟩) rfl rfl ?_ -- law.go:138 call
              refine Runs_nil ?_
              refine thenQ_n ?_
              refine W_cond _ rfl (fun hb4 => ?_) (fun hb4 => ?_)
              · try simp only [decide_eq_true_eq] at hb4
                all_goals (
                  refine W_regionE (c := 56) (c' := 64) (by kernel_rfl) rfl ?_
                  refine Runs_p rfl (Valid.movek (A := Is _) rfl rfl) rfl rfl ?_ -- law.go:139 move
                  refine Runs_p rfl (Valid.movek (A := Is _) rfl rfl) rfl rfl ?_ -- law.go:139 move
                  refine Runs_p rfl (Valid.movek (A := Is _) rfl rfl) rfl rfl ?_ -- law.go:139 move
                  refine Runs_p rfl (Valid.movek (A := Is _) rfl rfl) rfl rfl ?_ -- law.go:139 move
                  refine Runs_p rfl (Valid.add rfl rfl rfl (room64 (by first | omega | (simp only [ByteArray.size_extract]; omega) | (simp only [maxLen, ByteArray.size_extract]; omega)) (by first | omega | (simp only [ByteArray.size_extract]; omega) | (simp only [maxLen, ByteArray.size_extract]; omega)))) rfl rfl ?_ -- law.go:139 binOp
                  refine Runs_p rfl (Valid.sslice rfl Try.underlying9 rfl rfl rfl (by first | omega | (simp only [Int.toNat_natCast, toNat_add, toNat_add1, List.length_append, List.length_cons, List.length_nil, List.length_replicate]; omega))) rfl rfl ?_ -- law.go:139 slice
                  refine Runs_p rfl (Valid.cat rfl rfl rfl (by first | omega | (simp only [ByteArray.size_extract]; omega) | (simp only [maxLen, ByteArray.size_extract]; omega))) rfl rfl ?_ -- law.go:139 binOp
                  refine Runs_p rfl (Valid.assignk (A := Is _) rfl rfl) rfl rfl ?_ -- law.go:139 assign
                  refine Runs_nil ?_
                  refine thenQ_n ?_
                  refine W_regionE (c := 64) (c' := 67) (by kernel_rfl) rfl ?_
                  refine Runs_p rfl (Valid.movek (A := Is _) rfl rfl) rfl rfl ?_ -- law.go:141 move
                  refine Runs_p rfl (Valid.sub rfl rfl rfl (room64 (by first | omega | (simp only [Int.toNat_natCast, toNat_add, toNat_add1, List.length_append, List.length_cons, List.length_nil, List.length_replicate]; omega)) (by first | omega | (simp only [Int.toNat_natCast, toNat_add, toNat_add1, List.length_append, List.length_cons, List.length_nil, List.length_replicate]; omega)))) rfl rfl ?_ -- law.go:141 binOp
                  refine Runs_p rfl (Valid.assignk (A := Is _) rfl rfl) rfl rfl ?_ -- law.go:141 assign
                  refine Runs_nil ?_
                  refine blockQ_n ?_
                  refine LoopQ.next (d + 1) [] (⟨by omega, fun e he => (by
                        by_cases e2 : e = d
                        · subst e2; rw [hkk (by omega)]; exact bne_u8 hb3.2
                        · exact hd2 e (by omega))⟩) (by omega) ⟨⟨(leq_is rfl rfl (by first | rfl | exact congrArg (Value.int .i64) (by omega) | exact congrArg Value.string (dS_y ((i : Int) - 1 - d) (by omega) (by omega) (by assumption)) | exact congrArg Value.string (dS_n ((i : Int) - 1 - d) (by omega) (by omega) (by assumption)))), (leq_is rfl rfl (by first | rfl | exact congrArg (Value.int .i64) (by omega) | exact congrArg Value.string (dS_y ((i : Int) - 1 - d) (by omega) (by omega) (by assumption)) | exact congrArg Value.string (dS_n ((i : Int) - 1 - d) (by omega) (by omega) (by assumption)))), trivial⟩, ⟨(leq_is rfl rfl rfl), (leq_is rfl rfl rfl), (leq_is rfl rfl rfl), (leq_sl (Reads.sl rfl) rfl rfl rfl), (leq_is rfl rfl rfl), trivial⟩, trivial, trivial, rfl, ⟨supg rfl, supg rfl, trivial⟩, ⟨supg rfl, supg rfl, supg rfl, supg rfl, supg rfl, trivial⟩, trivial, trivial, rfl, rfl⟩
                  done)
              · try simp only [decide_eq_false_iff_not] at hb4
                all_goals (
                  refine W_skip ?_
                  refine thenQ_n ?_
                  refine W_regionE (c := 56) (c' := 59) (by kernel_rfl) rfl ?_
                  refine Runs_p rfl (Valid.movek (A := Is _) rfl rfl) rfl rfl ?_ -- law.go:141 move
                  refine Runs_p rfl (Valid.sub rfl rfl rfl (room64 (by first | omega | (simp only [Int.toNat_natCast, toNat_add, toNat_add1, List.length_append, List.length_cons, List.length_nil, List.length_replicate]; omega)) (by first | omega | (simp only [Int.toNat_natCast, toNat_add, toNat_add1, List.length_append, List.length_cons, List.length_nil, List.length_replicate]; omega)))) rfl rfl ?_ -- law.go:141 binOp
                  refine Runs_p rfl (Valid.assignk (A := Is _) rfl rfl) rfl rfl ?_ -- law.go:141 assign
                  refine Runs_nil ?_
                  refine blockQ_n ?_
                  refine LoopQ.next (d + 1) [] (⟨by omega, fun e he => (by
                        by_cases e2 : e = d
                        · subst e2; rw [hkk (by omega)]; exact bne_u8 hb3.2
                        · exact hd2 e (by omega))⟩) (by omega) ⟨⟨(leq_is rfl rfl (by first | rfl | exact congrArg (Value.int .i64) (by omega) | exact congrArg Value.string (dS_y ((i : Int) - 1 - d) (by omega) (by omega) (by assumption)) | exact congrArg Value.string (dS_n ((i : Int) - 1 - d) (by omega) (by omega) (by assumption)))), (leq_is rfl rfl (by first | rfl | exact congrArg (Value.int .i64) (by omega) | exact congrArg Value.string (dS_y ((i : Int) - 1 - d) (by omega) (by omega) (by assumption)) | exact congrArg Value.string (dS_n ((i : Int) - 1 - d) (by omega) (by omega) (by assumption)))), trivial⟩, ⟨(leq_is rfl rfl rfl), (leq_is rfl rfl rfl), (leq_is rfl rfl rfl), (leq_sl (Reads.sl rfl) rfl rfl rfl), (leq_is rfl rfl rfl), trivial⟩, trivial, trivial, rfl, ⟨supg rfl, supg rfl, trivial⟩, ⟨supg rfl, supg rfl, supg rfl, supg rfl, supg rfl, trivial⟩, trivial, trivial, rfl, rfl⟩
                  done)
              done)
          · try simp only [decide_eq_false_iff_not, Bool.and_eq_false_iff, ne_eq] at hb3
            all_goals (
              refine W_exit ?_
              refine thenQ_e ?_
              refine loopQ_e ?_
              refine blockQ_x ?_
              refine thenQ_n ?_
              refine W_seq ?_
              have hA := again (right_nodup hR) hin (i := i) (d := d) (by omega) hd1 hd2
              have hli : (plL a.data.toList t t.size).getD (i : Int).toNat 0 = idx (frL a.data.toList t i) (bat t (i : Int)) := plL_at _ _ _ _ (by omega)
              have hl0 := ok_in hin i (by omega)
              have hl1 := idx_lt (frL a.data.toList t i) (bat t (i : Int))
              have hl2 := (frL_perm (l := a.data.toList) (s := t) i (fun j hj => hin j (by omega))).length_eq
              have hl3 : a.data.toList.length = a.size := rfl
              have hl4 : (DL t i d).length = (dS t i d).size := rfl
              rw [hl4, ← hli] at hA
              rw [← hli] at hl0 hl1
              refine W_regionE (c := 48) (c' := 88) (by kernel_rfl) rfl ?_
              refine Runs_p rfl (Valid.movek (A := Is _) rfl rfl) rfl rfl ?_ -- law.go:143 move
              refine Runs_p rfl (Valid.geq rfl rfl rfl) rfl rfl ?_ -- law.go:143 binOp
              refine Runs_p rfl (Valid.movek (A := Is _) rfl rfl) rfl rfl ?_ -- law.go:143 move
              refine Runs_cnd rfl rfl (Grd.is rfl) [] (fun hg => trivial) (fun hg => Valid.movek (A := Sl 1 _ _) rfl rfl) (by rfl) rfl ?_
              refine Runs_cnd rfl rfl (Grd.is rfl) [] (fun hg => trivial) (fun hg => Valid.movek (A := Is _) rfl rfl) (by rfl) rfl ?_
              refine Runs_cnd rfl rfl (Grd.is rfl) [(73, _), (74, _)] (fun hg => ⟨cnd_at rfl (by first | exact hg | exact hg.1 | exact hg.1.1 | exact hg.1.1.1), cnd_at rfl (by first | exact hg | exact hg.1 | exact hg.1.1 | exact hg.1.1.1), trivial⟩) (fun hg => Valid.eltaddr1 0 rfl Try.underlying22 sz3 (Reads.sl rfl) rfl (by (try simp only [decide_eq_true_eq] at hg); first | omega | (simp only [Int.toNat_natCast, toNat_add, toNat_add1, List.length_append, List.length_cons, List.length_nil, List.length_replicate]; omega)) (by first | rfl | omega)) (by rfl) rfl ?_
              refine Runs_cnd rfl rfl (Grd.is rfl) [(75, _)] (fun hg => ⟨cnd_at rfl (by first | exact hg | exact hg.1 | exact hg.1.1 | exact hg.1.1.1), trivial⟩) (fun hg => Valid.loadelt rfl ag3 rfl) (by rfl) rfl ?_
              refine Runs_cnd rfl rfl (Grd.is rfl) [] (fun hg => trivial) (fun hg => Valid.movek (A := Is _) rfl rfl) (by rfl) rfl ?_
              refine Runs_cnd rfl rfl (Grd.is rfl) [(77, _)] (fun hg => ⟨cnd_at rfl (by first | exact hg | exact hg.1 | exact hg.1.1 | exact hg.1.1.1), trivial⟩) (fun hg => Valid.slen rfl Try.underlying9 rfl) (by rfl) rfl ?_
              refine Runs_cnd rfl rfl (Grd.is rfl) [(76, _), (78, _)] (fun hg => ⟨cnd_at rfl (by first | exact hg | exact hg.1 | exact hg.1.1 | exact hg.1.1.1), cnd_at rfl (by first | exact hg | exact hg.1 | exact hg.1.1 | exact hg.1.1.1), trivial⟩) (fun hg => Valid.neq rfl rfl rfl) (by rfl) rfl ?_
              refine Runs_p rfl (Valid.pickand rfl rfl rfl (fun h => by first | exact h | exact ⟨hg, h⟩) rfl) rfl rfl ?_ -- law.go:143 pick
              refine Runs_p rfl (Valid.movek (A := Is _) rfl rfl) rfl rfl ?_ -- law.go:143 move
              refine Runs_cnd rfl rfl (Grd.is rfl) [] (fun hg => trivial) (fun hg => Valid.movek (A := Is _) rfl rfl) (by rfl) rfl ?_
              refine Runs_cnd rfl rfl (Grd.is rfl) [(82, _)] (fun hg => ⟨cnd_at rfl (by first | exact hg | exact hg.1 | exact hg.1.1 | exact hg.1.1.1), trivial⟩) (fun hg => Valid.lss rfl rfl rfl) (by rfl) rfl ?_
              refine Runs_cnd rfl rfl (Grd.is rfl) [(83, _)] (fun hg => ⟨cnd_at rfl (by first | exact hg | exact hg.1 | exact hg.1.1 | exact hg.1.1.1), trivial⟩) (fun hg => Valid.movek (A := Is _) rfl rfl) (by rfl) rfl ?_
              refine Runs_cnd rfl rfl (Grd.cnd rfl) [] (fun hg => trivial) (fun hg => Valid.movek (A := Sl 1 _ _) rfl rfl) (by rfl) rfl ?_
              refine Runs_cnd rfl rfl (Grd.cnd rfl) [] (fun hg => trivial) (fun hg => Valid.movek (A := Is _) rfl rfl) (by rfl) rfl ?_
              refine Runs_cnd rfl rfl (Grd.cnd rfl) [(85, _), (86, _)] (fun hg => ⟨cnd_at rfl (by first | exact hg | exact hg.1 | exact hg.1.1 | exact hg.1.1.1), cnd_at rfl (by first | exact hg | exact hg.1 | exact hg.1.1 | exact hg.1.1.1), trivial⟩) (fun hg => Valid.eltaddr1 0 rfl Try.underlying22 sz3 (Reads.sl rfl) rfl (by (try simp only [Int.toNat_natCast, decide_eq_true_eq, decide_eq_false_iff_not, Bool.and_eq_false_iff, ne_eq] at hg); first | omega | (simp only [Int.toNat_natCast, toNat_add, toNat_add1, List.length_append, List.length_cons, List.length_nil, List.length_replicate]; omega)) (by first | rfl | omega)) (by rfl) rfl ?_
              refine Runs_cnd rfl rfl (Grd.cnd rfl) [(87, _)] (fun hg => ⟨cnd_at rfl (by first | exact hg | exact hg.1 | exact hg.1.1 | exact hg.1.1.1), trivial⟩) (fun hg => Valid.loadelt rfl ag3 rfl) (by rfl) rfl ?_
              refine Runs_cnd rfl rfl (Grd.cnd rfl) [] (fun hg => trivial) (fun hg => Valid.movek (A := Is _) rfl rfl) (by rfl) rfl ?_
              refine Runs_cnd rfl rfl (Grd.cnd rfl) [(89, _)] (fun hg => ⟨cnd_at rfl (by first | exact hg | exact hg.1 | exact hg.1.1 | exact hg.1.1.1), trivial⟩) (fun hg => Valid.slen rfl Try.underlying9 rfl) (by rfl) rfl ?_
              refine Runs_cnd rfl rfl (Grd.cnd rfl) [(88, _), (90, _)] (fun hg => ⟨cnd_at rfl (by first | exact hg | exact hg.1 | exact hg.1.1 | exact hg.1.1.1), cnd_at rfl (by first | exact hg | exact hg.1 | exact hg.1.1 | exact hg.1.1.1), trivial⟩) (fun hg => Valid.lss rfl rfl rfl) (by rfl) rfl ?_
              refine Runs_cnd rfl rfl (Grd.is rfl) [(84, _)] (fun hg => ⟨cnd_at rfl (by first | exact hg | exact hg.1 | exact hg.1.1 | exact hg.1.1.1), trivial⟩) (fun hg => Valid.pickand rfl rfl rfl (fun h => by first | exact h | exact ⟨hg, h⟩) rfl) (by rfl) rfl ?_
              refine Runs_p rfl (Valid.pickor rfl rfl rfl rfl (fun h => by first | exact h | exact ⟨hg, h⟩)) rfl rfl ?_ -- law.go:143 pick
              refine Runs_p rfl (Valid.movek (A := Is _) rfl rfl) rfl rfl ?_ -- law.go:143 move
              refine Runs_cnd rfl rfl (Grd.is rfl) [] (fun hg => trivial) (fun hg => Valid.movek (A := Sl 1 _ _) rfl rfl) (by rfl) rfl ?_
              refine Runs_cnd rfl rfl (Grd.is rfl) [] (fun hg => trivial) (fun hg => Valid.movek (A := Is _) rfl rfl) (by rfl) rfl ?_
              refine Runs_cnd rfl rfl (Grd.is rfl) [(95, _), (96, _)] (fun hg => ⟨cnd_at rfl (by first | exact hg | exact hg.1 | exact hg.1.1 | exact hg.1.1.1), cnd_at rfl (by first | exact hg | exact hg.1 | exact hg.1.1 | exact hg.1.1.1), trivial⟩) (fun hg => Valid.eltaddr1 0 rfl Try.underlying22 sz3 (Reads.sl rfl) rfl (by (try simp only [Int.toNat_natCast, decide_eq_false_iff_not, Bool.and_eq_false_iff, Bool.or_eq_false_iff, ne_eq] at hg); first | omega | (simp only [Int.toNat_natCast, toNat_add, toNat_add1, List.length_append, List.length_cons, List.length_nil, List.length_replicate]; omega)) (by first | rfl | omega)) (by rfl) rfl ?_
              refine Runs_cnd rfl rfl (Grd.is rfl) [(97, _)] (fun hg => ⟨cnd_at rfl (by first | exact hg | exact hg.1 | exact hg.1.1 | exact hg.1.1.1), trivial⟩) (fun hg => Valid.loadelt rfl ag3 rfl) (by rfl) rfl ?_
              refine Runs_cnd rfl rfl (Grd.is rfl) [(98, _)] (fun hg => ⟨cnd_at rfl (by first | exact hg | exact hg.1 | exact hg.1.1 | exact hg.1.1.1), trivial⟩) (fun hg => Valid.lss rfl rfl rfl) (by rfl) rfl ?_
              refine Runs_p rfl (Valid.pickor rfl rfl rfl rfl (fun h => by first | exact h | exact ⟨hg, h⟩)) rfl rfl ?_ -- law.go:143 pick
              refine Runs_p rfl (Valid.movek (A := Is _) rfl rfl) rfl rfl ?_ -- law.go:143 move
              refine Runs_cnd rfl rfl (Grd.is rfl) [] (fun hg => trivial) (fun hg => Valid.movek (A := Sl 1 _ _) rfl rfl) (by rfl) rfl ?_
              refine Runs_cnd rfl rfl (Grd.is rfl) [] (fun hg => trivial) (fun hg => Valid.movek (A := Is _) rfl rfl) (by rfl) rfl ?_
              refine Runs_cnd rfl rfl (Grd.is rfl) [(102, _), (103, _)] (fun hg => ⟨cnd_at rfl (by first | exact hg | exact hg.1 | exact hg.1.1 | exact hg.1.1.1), cnd_at rfl (by first | exact hg | exact hg.1 | exact hg.1.1 | exact hg.1.1.1), trivial⟩) (fun hg => Valid.eltaddr1 0 rfl Try.underlying22 sz3 (Reads.sl rfl) rfl (by (try simp only [Int.toNat_natCast, decide_eq_false_iff_not, Bool.and_eq_false_iff, Bool.or_eq_false_iff, ne_eq] at hg); first | omega | (simp only [Int.toNat_natCast, toNat_add, toNat_add1, List.length_append, List.length_cons, List.length_nil, List.length_replicate]; omega)) (by first | rfl | omega)) (by rfl) rfl ?_
              refine Runs_cnd rfl rfl (Grd.is rfl) [(104, _)] (fun hg => ⟨cnd_at rfl (by first | exact hg | exact hg.1 | exact hg.1.1 | exact hg.1.1.1), trivial⟩) (fun hg => Valid.loadelt rfl ag3 rfl) (by rfl) rfl ?_
              refine Runs_cnd rfl rfl (Grd.is rfl) [] (fun hg => trivial) (fun hg => Valid.movek (A := Is _) rfl rfl) (by rfl) rfl ?_
              refine Runs_cnd rfl rfl (Grd.is rfl) [(106, _)] (fun hg => ⟨cnd_at rfl (by first | exact hg | exact hg.1 | exact hg.1.1 | exact hg.1.1.1), trivial⟩) (fun hg => Valid.slen rfl Try.underlying9 rfl) (by rfl) rfl ?_
              refine Runs_cnd rfl rfl (Grd.is rfl) [(105, _), (107, _)] (fun hg => ⟨cnd_at rfl (by first | exact hg | exact hg.1 | exact hg.1.1 | exact hg.1.1.1), cnd_at rfl (by first | exact hg | exact hg.1 | exact hg.1.1 | exact hg.1.1.1), trivial⟩) (fun hg => Valid.geq rfl rfl rfl) (by rfl) rfl ?_
              refine Runs_p rfl (Valid.pickor rfl rfl rfl rfl (fun h => by first | exact h | exact ⟨hg, h⟩)) rfl rfl ?_ -- law.go:143 pick
              refine Runs_nil ?_
              refine thenQ_n ?_
              refine W_cond _ rfl (fun hb5 => ?_) (fun hb5 => ?_)
              · try simp only [Int.toNat_natCast, decide_eq_true_eq, Bool.and_eq_true, Bool.or_eq_true, ne_eq] at hb5
                all_goals (
                  exfalso
                  obtain ⟨hA1, hA2⟩ := hA
                  have hA3 : 0 ≤ (i : Int) - 1 - d → (plL a.data.toList t t.size).getD (i : Int).toNat 0 = ((dS t i d).size : Int) := fun h => by
                    rcases hb3 with h3 | h3
                    · omega
                    · exact hA1 (by omega) (by rw [hkk (by omega)]; exact beq_u8 (by omega))
                  simp only [Int.toNat_natCast] at hA2 hA3 hl0 hl1
                  omega
                  
                  done)
              · try simp only [Int.toNat_natCast, decide_eq_false_iff_not, Bool.and_eq_false_iff, Bool.or_eq_false_iff, ne_eq] at hb5
                all_goals (
                  refine W_skip ?_
                  refine blockQ_n ?_
                  refine thenQ_n ?_
                  refine W_regionE (c := 88) (c' := 91) (by kernel_rfl) rfl ?_
                  refine Runs_p rfl (Valid.movek (A := Is _) rfl rfl) rfl rfl ?_ -- law.go:134 move
                  refine Runs_p rfl (Valid.add rfl rfl rfl (room64 (by first | omega | (simp only [Int.toNat_natCast, toNat_add, toNat_add1, List.length_append, List.length_cons, List.length_nil, List.length_replicate]; omega)) (by first | omega | (simp only [Int.toNat_natCast, toNat_add, toNat_add1, List.length_append, List.length_cons, List.length_nil, List.length_replicate]; omega)))) rfl rfl ?_ -- law.go:134 binOp
                  refine Runs_p rfl (Valid.assignk (A := Is _) rfl rfl) rfl rfl ?_ -- law.go:134 assign
                  refine Runs_nil ?_
                  refine LoopQ.next (i + 1) [] (by omega) (by omega) ⟨⟨(leq_is rfl rfl (by first | rfl | (simp; done) | omega | (simp [toNat_add, toNat_add1, Nat.add_assoc]; done) | (simp [toNat_add, toNat_add1]; omega))), trivial⟩, ⟨(leq_is rfl rfl rfl), (leq_is rfl rfl rfl), (leq_is rfl rfl rfl), (leq_sl (Reads.sl rfl) rfl rfl rfl), trivial⟩, trivial, trivial, rfl, ⟨supg rfl, trivial⟩, ⟨supg rfl, supg rfl, supg rfl, supg rfl, trivial⟩, trivial, trivial, rfl, rfl⟩
                  done)
              done)
          done)
      · try simp only [decide_eq_false_iff_not] at hb2
        all_goals (
          refine W_exit ?_
          refine thenQ_e ?_
          refine loopQ_e ?_
          refine blockQ_x ?_
          refine thenQ_n ?_
          refine W_seq ?_
          refine W_regionE (c := 33) (c' := 35) (by kernel_rfl) rfl ?_
          refine Runs_p rfl (Valid.movek (A := Is _) rfl rfl) rfl rfl ?_ -- law.go:147 move
          refine Runs_p rfl (Valid.assignk (A := Is _) rfl rfl) rfl rfl ?_ -- law.go:147 assign
          refine Runs_nil ?_
          refine thenQ_n ?_
          refine W_ret ?_
          refine finQ_r ?_
          refine ResOk.one rfl (RVal.is rfl rfl (rfl))
          done)
      done)
end Fj
end Go.Proofs.Ytilljaaolejedaa
