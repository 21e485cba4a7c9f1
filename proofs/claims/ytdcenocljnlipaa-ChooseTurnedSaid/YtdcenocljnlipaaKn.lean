/-
  WALKS of stage 11: what the laws share.
-/
import Derived.Test.YtdcenocljnlipaaRows
import Derived.Test.YtdcenocljnlipaaMgc
import Derived.Test.YtdcenocljnlipaaWa
import Derived.Test.YtdcenocljnlipaaWb
import Derived.Test.YtdcenocljnlipaaWm
import Derived.Test.YtdcenocljnlipaaWc
import Derived.Test.YtdcenocljnlipaaWd
import Derived.Test.YtdcenocljnlipaaWe
import Derived.Test.YtdcenocljnlipaaWf
import Derived.Test.YtdcenocljnlipaaWg
import Derived.Test.YtdcenocljnlipaaWk
import Derived.Test.YtdcenocljnlipaaOa
import Derived.Test.YtdcenocljnlipaaOb
import Derived.Test.YtdcenocljnlipaaOc
import Derived.Test.YtdcenocljnlipaaOd
import Derived.Test.YtdcenocljnlipaaOf
import Derived.Test.YtdcenocljnlipaaOi
import Derived.Test.YtdcenocljnlipaaWh
import Derived.Test.YtdcenocljnlipaaCm
import Derived.Test.YtdcenocljnlipaaKa
import Derived.Test.YtdcenocljnlipaaKb
import Derived.Test.YtdcenocljnlipaaKl
import Derived.Test.YtdcenocljnlipaaKj
import Derived.Test.YtdcenocljnlipaaKc
import Derived.Test.YtdcenocljnlipaaKd
namespace Go.Proofs.Ytdcenocljnlipaa
open Go.RowKit
namespace Kn
open Ab Wa Wb Wm Wc Wd We Wf Wg Wk Oa Ob Oc Od Of Oi Wh Cm Ka Kb Kl Kj Kc Kd

theorem sym_rg (raw : List Int) (t : Int) (m : Nat) (h : 0 < t) : ∀ x ∈ symV raw t m, 0 ≤ x ∧ x < t := fun x hx => by
  obtain ⟨c, _, e⟩ := List.mem_map.1 hx
  have := pickV_range c t h
  rw [← e]; exact this
theorem ln_t {w l : List Int} {n k : Nat} {most e : Int} {xs ys : List Value} (hn : n = w.length) (hx : xs = w.map (Value.int .i64)) (hl : w.length ≤ 1000) (h : lnV w most = (l, e)) (hk : k = l.length) (hy : ys = l.map (Value.int .i64)) : FPure Try.prog 23 [Sl 1 n xs, Is (.int .i64 most)] (Tup [Sl 1 k ys, Is (.int .i64 e)]) := by
  subst hn hx hk hy
  have h1 := lengths_s w most hl
  rw [h] at h1
  exact h1
theorem tb_ok {m : List Int} {k : Nat} (h1 : 1 ≤ m.length) (hl : m.length ≤ 1000) (hk : 2 ≤ k) (hk2 : k ≤ 258) (hm : ∀ x ∈ m, 0 ≤ x ∧ x < (k : Int)) : tbV m k = ([tb m k 0, tb m k 1], ch m k, 0) :=
  tb_y ⟨by omega, by omega, fun h => by rw [h] at h1; simp at h1, by omega⟩ hm
theorem bnd_rep (k : Nat) : bnd (List.replicate k 0) := fun x hx => by rw [List.eq_of_mem_replicate hx]; unfold okW; omega
theorem lnV_ok {w : List Int} (h2 : 2 ≤ w.length) (hl : w.length ≤ 258) (hb : bnd w) : lnV w 20 = ((lnV w 20).1, 0) := by rw [lnV_y ⟨h2, hl, by decide, by decide, hb⟩]
theorem or_f {w v l : List Int} {m : Int} (hvn : Nn v) (hvl : v.length = w.length) (hlv : ∀ i, i < w.length → l.getD i 0 = (Dw v i : Int)) (hvo : (w.length : Int) ≤ m + 1 → v = ones w) {i k : Nat} (hi : i < w.length) (hk : k < w.length) (hm : (w.length : Int) ≤ m + 1) (he : max (w.getD k 0) 1 < max (w.getD i 0) 1) : l.getD i 0 ≤ l.getD k 0 := by
  have hv := hvo hm
  have := Dw_order hvn (i := i) (k := k) (by omega) (by omega) (by rw [hv, ones_at hi, ones_at hk]; exact he)
  rw [hlv i hi, hlv k hk]; omega
theorem tb_all {M : List Int} {k : Nat} {f : Int} (h2 : 2 ≤ k) (hk : k ≤ 20) (hl : M.length ≤ 1000) :
    (tb M k f).length = k ∧ In64 (tb M k f) ∧ (sndV (tb M k f)).2 = 0 ∧ (sndV (tb M k f ++ [20])).2 = 6 ∧ ∀ i j, i < k → j < k → (ctF M k f).getD i 0 = 0 → 1 < (ctF M k f).getD j 0 → (tb M k f).getD j 0 ≤ (tb M k f).getD i 0 := by
  have hcl := ctF_len M k f
  obtain ⟨l, v, h1, h3, h4, h5, h6, h7, h8, h9, h10, h11, h12, h13⟩ := lenW_all (w := ctF M k f) (most := 20) (by omega) (by omega) (by decide) (by decide) (ctF_bnd k f (by omega))
  have e : tb M k f = l := by rw [tb, h1]
  rw [e]
  refine ⟨by omega, h7, h5, h6, fun i j hi hj h0 h1 => ?_⟩
  exact or_f h11 h9 h10 h13 (by omega) (by omega) (by omega) (by omega)
theorem chk_t {l : List Int} {n : Nat} {xs : List Value} {e : Int} (hn : n = l.length) (hx : xs = l.map (Value.int .i64)) (hi : In64 l) (hl : l.length ≤ 1000) (h : (sndV l).2 = e) : FPure Try.prog 20 [Sl 1 n xs] (Is (.int .i64 e)) := by
  subst hn hx h
  exact check_s l hi (by omega)
theorem bt_n {l g x y : List Int} {c e : Int} (hx : x = l) (hy : y = g) (hi : In64 l) (hl : l.length ≤ 1000) (hg : g.length ≤ 1000) (h : btV l g = (c, e)) : FPure Try.prog 18 [Sl 1 x.length (x.map (Value.int .i64)), Sl 1 y.length (y.map (Value.int .i64))] (Tup [Is (.int .i64 c), Is (.int .i64 e)]) := by
  subst hx hy
  have h1 := bits_s x y hi (by omega) (by omega)
  rw [h] at h1
  exact h1
theorem pick_self {x t : Int} (h : 0 ≤ x ∧ x < t) : pickV x t = x := by
  unfold pickV
  rw [if_neg (by omega), Int.emod_eq_of_lt h.1 h.2]
theorem bt_1 {l g : List Int} (h : (sndV l).2 = 0) (h2 : ∀ x ∈ g, 0 ≤ x ∧ x < l.length) : btV l g = ((btV l g).1, 0) := by rw [bt_y h h2 rfl]
end Kn
end Go.Proofs.Ytdcenocljnlipaa
