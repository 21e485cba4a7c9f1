/-
  WALKS of stage 7: closed forms; what is drawn.
-/
import Derived.Test.YtlcephckjhiggaaRows
import Derived.Test.YtlcephckjhiggaaAbt
import Derived.Test.YtlcephckjhiggaaBb
import Derived.Test.YtlcephckjhiggaaCa
import Derived.Test.YtlcephckjhiggaaGa
import Derived.Test.YtlcephckjhiggaaGb
import Derived.Test.YtlcephckjhiggaaGc
import Derived.Test.YtlcephckjhiggaaGd
import Derived.Test.YtlcephckjhiggaaGe
import Derived.Test.YtlcephckjhiggaaGf
import Derived.Test.YtlcephckjhiggaaGg
import Derived.Test.YtlcephckjhiggaaGh
namespace Go.Proofs.Ytlcephckjhiggaa
open Go.RowKit
namespace Gi
open Ab Bm Bt Bb Ca Ga Gb Gc Gd Ge Gf Gg Gh

theorem has_iff (s : ByteArray) (x : Nat) : ∀ k, (hasL s k).getD x false = true ↔ ∃ j, j < k ∧ (bat s (j : Int)).toNat = x
  | 0 => by rw [has_00]; simp
  | k + 1 => by
    rw [has_set, Bool.or_eq_true, has_iff s x k, decide_eq_true_eq]
    constructor
    · rintro (h | ⟨j, h1, h2⟩)
      · exact ⟨k, by omega, h⟩
      · exact ⟨j, by omega, h2⟩
    · rintro ⟨j, h1, h2⟩
      by_cases e : j = k
      · exact .inl (e ▸ h2)
      · exact .inr ⟨j, by omega, h2⟩
def hasC (s : ByteArray) : List Bool := (List.range 256).map fun c => s.data.toList.any fun u => Nat.beq u.toNat c
theorem hasV_eq (s : ByteArray) : hasV s = hasC s := by
  apply List.ext_getElem (by rw [hasV_len]; simp [hasC])
  intro x h1 h2
  rw [hasV_len] at h1
  have e : (hasC s)[x] = s.data.toList.any fun u => Nat.beq u.toNat x := by simp [hasC]
  have e2 : (hasV s)[x] = (hasV s).getD x false := (getD_lt _ _ _ _).symm
  rw [e, e2, Bool.eq_iff_iff, hasV, has_iff, List.any_eq_true]
  constructor
  · rintro ⟨j, hj, hx⟩
    have hl : j < s.data.toList.length := hj
    refine ⟨bat s (j : Int), ?_, by rw [hx]; exact Nat.beq_refl _⟩
    show s.data.toList.getD j 0 ∈ _
    rw [getD_lt _ _ _ hl]; exact List.getElem_mem _
  · rintro ⟨u, hu, hx⟩
    obtain ⟨j, hj, rfl⟩ := List.mem_iff_getElem.1 hu
    refine ⟨j, hj, ?_⟩
    show (s.data.toList.getD j 0).toNat = x
    rw [getD_lt _ _ _ hj]
    exact Nat.eq_of_beq_eq_true hx
theorem alB_eq (h : List Bool) : ∀ k, alB h k = ((List.range k).filter fun c => h.getD c false).map UInt8.ofNat
  | 0 => by rw [alB_0]; rfl
  | k + 1 => by
    rw [alB, alB_eq h k, List.range_succ, List.filter_append, List.map_append]
    by_cases e : h.getD k false = true
    · rw [if_pos e, List.filter_cons_of_pos (by exact e)]; rfl
    · rw [if_neg e, List.filter_cons_of_neg (by exact e)]; simp
theorem resB_eq (h : List Bool) : ∀ k, resB h k = (List.range k).flatMap fun j => if anyR h j 16 = true then rowB h j 16 else []
  | 0 => by rw [resB]; rfl
  | k + 1 => by
    rw [resB, resB_eq h k, List.range_succ, List.flatMap_append]
    by_cases e : anyR h k 16 = true
    · rw [if_pos e]; simp [e]
    · rw [if_neg e]; simp [e]
theorem knAl : alV ⟨#[98, 97, 98]⟩ = ⟨#[97, 98]⟩ := by
  unfold alV
  rw [hasV_eq, alB_eq]; kernel_rfl
theorem knMap : (pack (mapB ⟨#[98, 97]⟩), (((mapB ⟨#[98, 97]⟩).length : Nat) : Int)) = (⟨#[2, 0, 96, 0]⟩, 32) := by
  rw [map_eq, resB_eq, hasV_eq]; kernel_rfl

set_option maxRecDepth 100000 in
set_option maxHeartbeats 1000000 in
theorem pick7_s (c n : Int) (h1 : -9223372036854775808 ≤ c) (h2 : c ≤ 9223372036854775807) (h3 : 0 < n) (_h4 : n ≤ 9223372036854775807) :
    FPure Try.prog 13 [Is (.int .i64 c), Is (.int .i64 n)] (Is (.int .i64 (pickV c n))) := by
  refine FPure.of Try.func13 Try.ntmps13 rfl (by kernel_rfl) rfl rfl rfl ?_
  refine W_seq ?_
  refine W_regionE (c := 1) (c' := 2) (by kernel_rfl) rfl ?_
  refine Runs_p rfl (Valid.assignk (A := Is _) rfl rfl) rfl rfl ?_ -- law.go:13 assign
  refine Runs_nil ?_
  refine thenQ_n ?_
  refine W_seq ?_
  refine W_seq ?_
  refine W_regionE (c := 2) (c' := 4) (by kernel_rfl) rfl ?_
  refine Runs_p rfl (Valid.movek (A := Is _) rfl rfl) rfl rfl ?_ -- law.go:14 move
  refine Runs_p rfl (Valid.lss rfl rfl rfl) rfl rfl ?_ -- law.go:14 binOp
  refine Runs_nil ?_
  refine thenQ_n ?_
  refine W_cond _ rfl (fun hb1 => ?_) (fun hb1 => ?_)
  · try simp only [decide_eq_true_eq] at hb1
    all_goals (
      refine W_regionE (c := 4) (c' := 8) (by kernel_rfl) rfl ?_
      refine Runs_p rfl (Valid.movek (A := Is _) rfl rfl) rfl rfl ?_ -- law.go:15 move
      refine Runs_p rfl (Valid.add rfl rfl rfl (room64 (by first | omega | (simp only [Int.toNat_natCast, toNat_add, toNat_add1, List.length_append, List.length_cons, List.length_nil, List.length_replicate]; omega)) (by first | omega | (simp only [Int.toNat_natCast, toNat_add, toNat_add1, List.length_append, List.length_cons, List.length_nil, List.length_replicate]; omega)))) rfl rfl ?_ -- law.go:15 binOp
      refine Runs_p rfl (Valid.neg rfl rfl (room64 (by first | omega | (simp only [Int.toNat_natCast, toNat_add, toNat_add1, List.length_append, List.length_cons, List.length_nil, List.length_replicate]; omega)) (by first | omega | (simp only [Int.toNat_natCast, toNat_add, toNat_add1, List.length_append, List.length_cons, List.length_nil, List.length_replicate]; omega)))) rfl rfl ?_ -- law.go:15 unOp
      refine Runs_p rfl (Valid.assignk (A := Is _) rfl rfl) rfl rfl ?_ -- law.go:15 assign
      refine Runs_nil ?_
      refine thenQ_n ?_
      refine W_seq ?_
      refine W_regionE (c := 8) (c' := 12) (by kernel_rfl) rfl ?_
      refine Runs_p rfl (Valid.movek (A := Is _) rfl rfl) rfl rfl ?_ -- law.go:17 move
      refine Runs_p rfl (Valid.movek (A := Is _) rfl rfl) rfl rfl ?_ -- law.go:17 move
      refine Runs_p rfl (Valid.rem rfl rfl rfl (by first | omega | (simp only [Int.toNat_natCast, toNat_add, toNat_add1, List.length_append, List.length_cons, List.length_nil, List.length_replicate]; omega)) (by first | omega | (simp only [Int.toNat_natCast, toNat_add, toNat_add1, List.length_append, List.length_cons, List.length_nil, List.length_replicate]; omega))) rfl rfl ?_ -- law.go:17 binOp
      refine Runs_p rfl (Valid.assignk (A := Is _) rfl rfl) rfl rfl ?_ -- law.go:17 assign
      refine Runs_nil ?_
      refine thenQ_n ?_
      refine W_ret ?_
      refine finQ_r ?_
      refine ResOk.one rfl (RVal.is rfl rfl (by simp only [pickV]; split <;> first | rfl | omega))
      done)
  · try simp only [decide_eq_false_iff_not] at hb1
    all_goals (
      refine W_skip ?_
      refine thenQ_n ?_
      refine W_seq ?_
      refine W_regionE (c := 4) (c' := 8) (by kernel_rfl) rfl ?_
      refine Runs_p rfl (Valid.movek (A := Is _) rfl rfl) rfl rfl ?_ -- law.go:17 move
      refine Runs_p rfl (Valid.movek (A := Is _) rfl rfl) rfl rfl ?_ -- law.go:17 move
      refine Runs_p rfl (Valid.rem rfl rfl rfl (by first | omega | (simp only [Int.toNat_natCast, toNat_add, toNat_add1, List.length_append, List.length_cons, List.length_nil, List.length_replicate]; omega)) (by first | omega | (simp only [Int.toNat_natCast, toNat_add, toNat_add1, List.length_append, List.length_cons, List.length_nil, List.length_replicate]; omega))) rfl rfl ?_ -- law.go:17 binOp
      refine Runs_p rfl (Valid.assignk (A := Is _) rfl rfl) rfl rfl ?_ -- law.go:17 assign
      refine Runs_nil ?_
      refine thenQ_n ?_
      refine W_ret ?_
      refine finQ_r ?_
      refine ResOk.one rfl (RVal.is rfl rfl (by simp only [pickV]; split <;> first | rfl | omega))
      done)
end Gi
end Go.Proofs.Ytlcephckjhiggaa
