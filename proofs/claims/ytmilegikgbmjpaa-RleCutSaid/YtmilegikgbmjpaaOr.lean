/-
  ARGUMENTS OPENED FOR THE WALKS: a slice of arrays of two integers.
-/
import Derived.Test.YtmilegikgbmjpaaOpen
import Derived.Test.YtmilegikgbmjpaaAw
import Derived.Test.YtmilegikgbmjpaaAbz
namespace Go.Proofs.Ytmilegikgbmjpaa
open Go.ChangeShapes Go.WideShapes Go.ChangeAt Go.RowKit
open Ab (prs prs_len prs_at)
namespace Kit
/-- a slice of arrays of two integers that came in -/
theorem open_rows2 {H : Type} {enc : TypeId × Value → H} {P : Program} {W : World} {base : Nat} {spare : Nat → Bool} {held : Bool} {t e t0 : TypeId} {v : Value} {d : DataW H} {ps : List MemPlace} {r : Reach}
    (hu : P.underlying t = some (.slice e)) (he : P.underlying e = some (.array 2 t0)) (h0 : P.underlying t0 = some (.int .i64)) (hce : P.cellsOf e = 2) (hc0 : P.cellsOf t0 = 1)
    (hval : Value.okWide P W r base t v) (h : DataW.Trod enc P W 0 spare held t v d ps) :
    ∃ (n : Nat) (zs : List (Int × Int)), Sl W 2 v n (prs zs) ∧ zs.length = n ∧ ∀ z ∈ zs, (Lit.int .i64 z.1).wf = true ∧ (Lit.int .i64 z.2).wf = true := by
  obtain ⟨a0, len0, cap0, rfl⟩ := okWide_slice hu hval
  obtain ⟨fuel, hf⟩ := h
  rcases DataW.trod_slice hu hf with ⟨hcs, _⟩ | ⟨a, len, cap, elems, rest, m, _, hcs, _, hb, hl, hm, hlen, hel, _, _⟩
  · simp [Value.cells] at hcs
    obtain ⟨rfl, rfl, rfl⟩ := hcs
    exact ⟨0, [], Sl.nil _ _, rfl, by simp⟩
  · simp [Value.cells] at hcs
    obtain ⟨rfl, rfl, rfl⟩ := hcs
    have key : ∀ i, i < len0 → ∃ z : Int × Int, W.cell? (a.add (i * 2)) = some (.int .i64 z.1) ∧ W.cell? ((a.add (i * 2)).add 1) = some (.int .i64 z.2) ∧ (Lit.int .i64 z.1).wf = true ∧ (Lit.int .i64 z.2).wf = true := by
      intro i hi
      have h1 := hel i hi
      rw [List.getElem?_eq_getElem (by omega), hce, Option.bind_eq_some_iff] at h1
      obtain ⟨cs, hc1, hc2⟩ := h1
      obtain ⟨xs, m', _, _, hcl, hx, hxi⟩ := DataW.trod_array he hc2
      rw [hce] at hcl
      rw [hc0] at hxi
      obtain ⟨_, hlc, hci⟩ := World.cells?_some hc1
      match cs, hcl with
      | [u0, u1], _ =>
        have g0 := hxi 0 (by omega)
        have g1 := hxi 1 (by omega)
        rw [List.getElem?_eq_getElem (by omega)] at g0 g1
        obtain ⟨z0, e0, _, w0⟩ := DataW.trod_int h0 g0
        obtain ⟨z1, e1, _, w1⟩ := DataW.trod_int h0 g1
        simp at e0 e1
        subst e0 e1
        exact ⟨(z0, z1), by simpa [Addr.add] using hci 0 (by omega), by simpa using hci 1 (by omega), w0, w1⟩
    have hex : ∃ zs : List (Int × Int), zs.length = len0 ∧ ∀ i (hi : i < zs.length), W.cell? (a.add (i * 2)) = some (.int .i64 zs[i].1) ∧ W.cell? ((a.add (i * 2)).add 1) = some (.int .i64 zs[i].2) ∧ (Lit.int .i64 zs[i].1).wf = true ∧ (Lit.int .i64 zs[i].2).wf = true := by
      have : ∀ n, n ≤ len0 → ∃ zs : List (Int × Int), zs.length = n ∧ ∀ i (hi : i < zs.length), W.cell? (a.add (i * 2)) = some (.int .i64 zs[i].1) ∧ W.cell? ((a.add (i * 2)).add 1) = some (.int .i64 zs[i].2) ∧ (Lit.int .i64 zs[i].1).wf = true ∧ (Lit.int .i64 zs[i].2).wf = true := by
        intro n
        induction n with
        | zero => intro _; exact ⟨[], rfl, fun i hi => by simp at hi⟩
        | succ n ih =>
          intro hn
          obtain ⟨zs, h1, h2⟩ := ih (by omega)
          obtain ⟨z, hz⟩ := key n (by omega)
          refine ⟨zs ++ [z], by simp [h1], fun i hi => ?_⟩
          by_cases e : i < zs.length
          · rw [List.getElem_append_left e]; exact h2 i e
          · have : i = n := by simp at hi; omega
            subst this
            rw [List.getElem_append_right (by omega)]
            simpa using hz
      exact this len0 (Nat.le_refl _)
    obtain ⟨zs, hz1, hz2⟩ := hex
    refine ⟨len0, zs, ⟨by rw [prs_len, hz1], .inr ⟨a, cap0, rfl, hl, hm, fun j u hj => ?_⟩⟩, hz1, fun z hz => ?_⟩
    · have hj2 : j < zs.length * 2 := by
        have := (List.getElem?_eq_some_iff.1 hj).1
        rwa [prs_len] at this
      have hi : j / 2 < zs.length := by omega
      obtain ⟨p1, p2⟩ := prs_at zs (j / 2) hi
      obtain ⟨c1, c2, _⟩ := hz2 (j / 2) hi
      have s0 := add_spot (hz2 0 (by omega)).1
      have s1 := s0.1 rfl
      have hadd : ∀ i, a.add i = ⟨a.block, a.off + i, none⟩ := fun i => by
        unfold Addr.add
        by_cases e : i = 0
        · subst e; rw [if_pos rfl]; clear hz2 s0 c1 c2 hf hval hel key; obtain ⟨b, o, sp⟩ := a; simp only at s1; subst s1; rfl
        · rw [if_neg e]
      refine ⟨s1, ?_⟩
      by_cases hp : j % 2 = 0
      · rw [show j / 2 * 2 = j by omega] at p1 c1
        rw [p1] at hj; cases hj
        rw [← hadd]; exact c1
      · rw [show j / 2 * 2 + 1 = j by omega] at p2
        rw [p2] at hj; cases hj
        rw [hadd] at c2
        have : ((⟨a.block, a.off + j / 2 * 2, none⟩ : Addr).add 1) = ⟨a.block, a.off + j, none⟩ := by
          unfold Addr.add
          rw [if_neg (by omega), show a.off + j / 2 * 2 + 1 = a.off + j by omega]
        rwa [this] at c2
    · obtain ⟨i, hi, rfl⟩ := List.mem_iff_getElem.1 hz
      exact (hz2 i hi).2.2
theorem sl_ar2 {w : World} {n : Nat} {v : Value} {z : List (Int × Int)} (h : Kit.Sl w 2 v n (prs z)) (hl : z.length = n) : Ab.SlP (Ab.Kw.plain w) 2 z.length (prs z) v := by
  subst hl; exact Ab.SlP.of_kit h
end Kit
end Go.Proofs.Ytmilegikgbmjpaa
