/-
  WALKS of stage 11: the law that is awake.
-/
import Derived.Test.YtdcenocljnlipaaRows
import Derived.Test.YtdcenocljnlipaaMgc
import Derived.Test.YtdcenocljnlipaaWa
import Derived.Test.YtdcenocljnlipaaWb
import Derived.Test.YtdcenocljnlipaaWm
import Derived.Test.YtdcenocljnlipaaWc
import Derived.Test.YtdcenocljnlipaaWd
import Derived.Test.YtdcenocljnlipaaWe
import Derived.Test.YtdcenocljnlipaaWf
import Derived.Test.YtdcenocljnlipaaWg
import Derived.Test.YtdcenocljnlipaaWk
import Derived.Test.YtdcenocljnlipaaOa
import Derived.Test.YtdcenocljnlipaaOb
import Derived.Test.YtdcenocljnlipaaOc
import Derived.Test.YtdcenocljnlipaaOd
import Derived.Test.YtdcenocljnlipaaOf
import Derived.Test.YtdcenocljnlipaaOi
import Derived.Test.YtdcenocljnlipaaWh
import Derived.Test.YtdcenocljnlipaaCm
import Derived.Test.YtdcenocljnlipaaKa
import Derived.Test.YtdcenocljnlipaaKb
import Derived.Test.YtdcenocljnlipaaKl
import Derived.Test.YtdcenocljnlipaaKc
namespace Go.Proofs.Ytdcenocljnlipaa
open Go.RowKit
namespace Kd
open Ab Wa Wb Wm Wc Wd We Wf Wg Wk Oa Ob Oc Od Of Oi Wh Cm Ka Kb Kl Kc

theorem joinV_is {w v : List Int} (hw : Nn w) (h2 : 2 ≤ w.length) (hl : v.length = w.length) (h : (List.range w.length).all (fun i => decide (v.getD i 0 = (Dw w i : Int))) = true) : joinV w = v := by
  refine ext_gd (by rw [joinV_len h2, hl]) (fun i hi => ?_)
  rw [joinV_len h2] at hi
  rw [joinV_at hw h2 hi]
  exact (of_decide_eq_true (List.all_eq_true.1 h i (List.mem_range.2 hi))).symm
abbrev m12 : List Int := [0, 0, 0, 0, 0, 0, 0, 0, 0, 0, 1, 1]
theorem kt0 : tb m12 3 0 = [1, 2, 2] := by
  rw [tb, show ctF m12 3 0 = [10, 0, 0] by kernel_rfl, lnV_y (by decide), lenW_short (by decide) (by decide)]
  rw [show ones [10, 0, 0] = [10, 1, 1] from rfl, joinV_is (w := [10, 1, 1]) (v := [1, 2, 2]) (fun x hx => by simp at hx; omega) (by decide) rfl (by kernel_rfl)]
theorem kt1 : tb m12 3 1 = [2, 1, 2] := by
  rw [tb, show ctF m12 3 1 = [0, 2, 0] by kernel_rfl, lnV_y (by decide), lenW_short (by decide) (by decide)]
  rw [show ones [0, 2, 0] = [1, 2, 1] from rfl, joinV_is (w := [1, 2, 1]) (v := [2, 1, 2]) (fun x hx => by simp at hx; omega) (by decide) rfl (by kernel_rfl)]
theorem k1 : tbV m12 3 = ([[1, 2, 2], [2, 1, 2]], [0, 1], 0) := by
  have h := tb_y (m := m12) (n := 3) (by decide) (by decide)
  rw [show ((3 : Nat) : Int) = 3 from rfl] at h
  rw [h, kt0, kt1]
  have : ch m12 3 = [0, 1] := by
    rw [ch]; unfold chA
    rw [kt0, kt1]; kernel_rfl
  rw [this]
theorem k2 : tbV m12 1 = ([], [], 1) := tb_e (by decide)
theorem k3 : tbV [3] 3 = ([], [], 5) := tb_n (by decide) (by decide)
theorem k4 : btV [1, 2, 2] [0, 2] = (3, 0) := by kernel_rfl
theorem k5 : btV [1] [] = (0, 1) := by kernel_rfl
theorem k6 : btV [1, 1] [2] = (0, 5) := by kernel_rfl
theorem k7 : gps m12 = [[0, 0, 0, 0, 0, 0, 0, 0, 0, 0], [1, 1]] := by kernel_rfl
theorem in_dec {l : List Int} (h : l.all (fun x => decide (-9223372036854775808 ≤ x ∧ x ≤ 9223372036854775807)) = true) : In64 l := fun x hx => of_decide_eq_true (List.all_eq_true.1 h x hx)
theorem tb_t {m : List Int} {n a b : Nat} {x e : Int} {t : List (List Int)} {c : List Int} {xs ys : List Value} {zs : List AV} (hn : n = m.length) (hx : xs = m.map (Value.int .i64)) (hl : m.length ≤ 1000000000) (h : tbV m x = (t, c, e)) (ha : a = t.length) (hz : zs = t.map Fl) (hb : b = c.length) (hy : ys = c.map (Value.int .i64)) : FPure Try.prog 15 [Sl 1 n xs, Is (.int .i64 x)] (Tup [SlA 1 a zs, Sl 1 b ys, Is (.int .i64 e)]) := by
  subst hn hx ha hz hb hy
  have h1 := tables_s m x hl
  rw [h] at h1
  exact h1
theorem bt_t {l g : List Int} {n k : Nat} {c e : Int} {xs ys : List Value} (hn : n = l.length) (hx : xs = l.map (Value.int .i64)) (hk : k = g.length) (hy : ys = g.map (Value.int .i64)) (hi : In64 l) (hl : l.length ≤ 1000) (hg : g.length ≤ 1000) (h : btV l g = (c, e)) : FPure Try.prog 18 [Sl 1 n xs, Sl 1 k ys] (Tup [Is (.int .i64 c), Is (.int .i64 e)]) := by
  subst hn hx hk hy
  have h1 := bits_s l g hi (by omega) (by omega)
  rw [h] at h1
  exact h1
theorem gr_t {m : List Int} {n k : Nat} {xs : List Value} {g : List (List Int)} {zs : List AV} (hn : n = m.length) (hx : xs = m.map (Value.int .i64)) (hl : m.length ≤ 1000000000) (h : gps m = g) (hk : k = g.length) (hz : zs = g.map Fl) : FPure Try.prog 13 [Sl 1 n xs] (SlA 1 k zs) := by
  subst hn hx hk hz
  have h1 := grps_s m hl
  rw [h] at h1
  exact h1
theorem ls_t {a : List (List Int)} {n k : Nat} {zs ws : List AV} (hn : n = a.length) (hz : zs = a.map Fl) (hk : k = a.length) (hw : ws = a.map Fl) (ha : a.length ≤ 1000000000) (hx : ∀ x ∈ a, x.length ≤ 1000000000) : FPure Try.prog 12 [SlA 1 n zs, SlA 1 k ws] (Is (.bool true)) := by
  subst hn hz hk hw
  exact lsame ha hx

set_option maxRecDepth 100000 in
set_option maxHeartbeats 1000000 in
theorem awake11_s  :
    FPure Try.prog 8 [] (Is (.bool true)) := by
  refine FPure.of Try.func8 Try.ntmps8 rfl (by kernel_rfl) rfl rfl rfl ?_
  refine W_seq ?_
  refine W_regionE (c := 1) (c' := 2) (by kernel_rfl) rfl ?_
  refine Runs_p rfl (Valid.assignk (A := Is _) rfl rfl) rfl rfl ?_
  refine Runs_nil ?_
  refine thenQ_n ?_
  refine W_seq ?_
  refine W_regionE (c := 2) (c' := 4) (by kernel_rfl) rfl ?_
  refine Runs_p rfl (Valid.lit (el := 3) (m12.map (Value.int .i64)) rfl rfl (fun _ => by kernel_rfl) rfl (by decide)) rfl rfl ?_
  refine Runs_p rfl (Valid.assignk (A := Sl 1 _ _) rfl rfl) rfl rfl ?_
  refine Runs_nil ?_
  refine thenQ_n ?_
  refine W_seq ?_
  refine W_regionE (c := 4) (c' := 7) (by kernel_rfl) rfl ?_
  refine Runs_p rfl (Valid.movek (A := Sl 1 _ _) rfl rfl) rfl rfl ?_
  refine Runs_p rfl (Valid.call rfl (gr_t (m := m12) rfl rfl (by decide) k7 rfl rfl) ⟨argle_sl (Reads.sl rfl), trivial⟩) rfl rfl ?_
  refine Runs_p rfl (Valid.assignk (A := SlA 1 _ _) rfl rfl) rfl rfl ?_
  refine Runs_nil ?_
  refine thenQ_n ?_
  refine W_seq ?_
  refine W_regionE (c := 7) (c' := 16) (by kernel_rfl) rfl ?_
  refine Runs_p rfl (Valid.movek (A := Sl 1 _ _) rfl rfl) rfl rfl ?_
  refine Runs_p rfl (Valid.call rfl (tb_t (m := m12) rfl rfl (by decide) k1 rfl rfl rfl rfl) ⟨argle_sl (Reads.sl rfl), argle rfl, trivial⟩) rfl rfl ?_
  refine Runs_p rfl (Valid.movek (A := Tup [SlA 1 _ _, Sl 1 _ _, Is _]) rfl rfl) rfl rfl ?_
  refine Runs_p rfl (Valid.extract _ rfl rfl rfl) rfl rfl ?_
  refine Runs_p rfl (Valid.extract _ rfl rfl rfl) rfl rfl ?_
  refine Runs_p rfl (Valid.extract _ rfl rfl rfl) rfl rfl ?_
  refine Runs_p rfl (Valid.assignk (A := SlA 1 _ _) rfl rfl) rfl rfl ?_
  refine Runs_p rfl (Valid.assignk (A := Sl 1 _ _) rfl rfl) rfl rfl ?_
  refine Runs_p rfl (Valid.assignk (A := Is _) rfl rfl) rfl rfl ?_
  refine Runs_nil ?_
  refine thenQ_n ?_
  refine W_seq ?_
  refine W_regionE (c := 16) (c' := 25) (by kernel_rfl) rfl ?_
  refine Runs_p rfl (Valid.movek (A := Sl 1 _ _) rfl rfl) rfl rfl ?_
  refine Runs_p rfl (Valid.call rfl (tb_t (m := m12) rfl rfl (by decide) k2 rfl rfl rfl rfl) ⟨argle_sl (Reads.sl rfl), argle rfl, trivial⟩) rfl rfl ?_
  refine Runs_p rfl (Valid.movek (A := Tup [SlA 1 _ _, Sl 1 _ _, Is _]) rfl rfl) rfl rfl ?_
  refine Runs_p rfl (Valid.extract _ rfl rfl rfl) rfl rfl ?_
  refine Runs_p rfl (Valid.extract _ rfl rfl rfl) rfl rfl ?_
  refine Runs_p rfl (Valid.extract _ rfl rfl rfl) rfl rfl ?_
  refine Runs_p rfl (Valid.assignk (A := SlA 1 _ _) rfl rfl) rfl rfl ?_
  refine Runs_p rfl (Valid.assignk (A := Sl 1 _ _) rfl rfl) rfl rfl ?_
  refine Runs_p rfl (Valid.assignk (A := Is _) rfl rfl) rfl rfl ?_
  refine Runs_nil ?_
  refine thenQ_n ?_
  refine W_seq ?_
  refine W_regionE (c := 25) (c' := 34) (by kernel_rfl) rfl ?_
  refine Runs_p rfl (Valid.lit (el := 3) (([3] : List Int).map (Value.int .i64)) rfl rfl (fun _ => by kernel_rfl) rfl (by decide)) rfl rfl ?_
  refine Runs_p rfl (Valid.call rfl (tb_t (m := [3]) rfl rfl (by decide) k3 rfl rfl rfl rfl) ⟨argle_sl (Reads.sl rfl), argle rfl, trivial⟩) rfl rfl ?_
  refine Runs_p rfl (Valid.movek (A := Tup [SlA 1 _ _, Sl 1 _ _, Is _]) rfl rfl) rfl rfl ?_
  refine Runs_p rfl (Valid.extract _ rfl rfl rfl) rfl rfl ?_
  refine Runs_p rfl (Valid.extract _ rfl rfl rfl) rfl rfl ?_
  refine Runs_p rfl (Valid.extract _ rfl rfl rfl) rfl rfl ?_
  refine Runs_p rfl (Valid.assignk (A := SlA 1 _ _) rfl rfl) rfl rfl ?_
  refine Runs_p rfl (Valid.assignk (A := Sl 1 _ _) rfl rfl) rfl rfl ?_
  refine Runs_p rfl (Valid.assignk (A := Is _) rfl rfl) rfl rfl ?_
  refine Runs_nil ?_
  refine thenQ_n ?_
  refine W_seq ?_
  refine W_regionE (c := 34) (c' := 42) (by kernel_rfl) rfl ?_
  refine Runs_p rfl (Valid.lit (el := 3) [_, _, _] rfl rfl (fun _ => by kernel_rfl) rfl (by decide)) rfl rfl ?_
  refine Runs_p rfl (Valid.lit (el := 3) [_, _] rfl rfl (fun _ => by kernel_rfl) rfl (by decide)) rfl rfl ?_
  refine Runs_p rfl (Valid.call rfl (bt_t (l := [1, 2, 2]) (g := [0, 2]) rfl rfl rfl rfl (in_dec rfl) (by decide) (by decide) k4) ⟨argle_sl (Reads.sl rfl), argle_sl (Reads.sl rfl), trivial⟩) rfl rfl ?_
  refine Runs_p rfl (Valid.movek (A := Tup [Is _, Is _]) rfl rfl) rfl rfl ?_
  refine Runs_p rfl (Valid.extract _ rfl rfl rfl) rfl rfl ?_
  refine Runs_p rfl (Valid.extract _ rfl rfl rfl) rfl rfl ?_
  refine Runs_p rfl (Valid.assignk (A := Is _) rfl rfl) rfl rfl ?_
  refine Runs_p rfl (Valid.assignk (A := Is _) rfl rfl) rfl rfl ?_
  refine Runs_nil ?_
  refine thenQ_n ?_
  refine W_seq ?_
  refine W_regionE (c := 42) (c' := 49) (by kernel_rfl) rfl ?_
  refine Runs_p rfl (Valid.lit (el := 3) (([1] : List Int).map (Value.int .i64)) rfl rfl (fun _ => by kernel_rfl) rfl (by decide)) rfl rfl ?_
  refine Runs_p rfl (Valid.call rfl (bt_t (l := [1]) (g := []) rfl rfl rfl rfl (in_dec rfl) (by decide) (by decide) k5) ⟨argle_sl (Reads.sl rfl), argle_sl (Reads.nil rfl), trivial⟩) rfl rfl ?_
  refine Runs_p rfl (Valid.movek (A := Tup [Is _, Is _]) rfl rfl) rfl rfl ?_
  refine Runs_p rfl (Valid.extract _ rfl rfl rfl) rfl rfl ?_
  refine Runs_p rfl (Valid.extract _ rfl rfl rfl) rfl rfl ?_
  refine Runs_p rfl (Valid.assignk (A := Is _) rfl rfl) rfl rfl ?_
  refine Runs_p rfl (Valid.assignk (A := Is _) rfl rfl) rfl rfl ?_
  refine Runs_nil ?_
  refine thenQ_n ?_
  refine W_seq ?_
  refine W_regionE (c := 49) (c' := 57) (by kernel_rfl) rfl ?_
  refine Runs_p rfl (Valid.lit (el := 3) [_, _] rfl rfl (fun _ => by kernel_rfl) rfl (by decide)) rfl rfl ?_
  refine Runs_p rfl (Valid.lit (el := 3) [_] rfl rfl (fun _ => by kernel_rfl) rfl (by decide)) rfl rfl ?_
  refine Runs_p rfl (Valid.call rfl (bt_t (l := [1, 1]) (g := [2]) rfl rfl rfl rfl (in_dec rfl) (by decide) (by decide) k6) ⟨argle_sl (Reads.sl rfl), argle_sl (Reads.sl rfl), trivial⟩) rfl rfl ?_
  refine Runs_p rfl (Valid.movek (A := Tup [Is _, Is _]) rfl rfl) rfl rfl ?_
  refine Runs_p rfl (Valid.extract _ rfl rfl rfl) rfl rfl ?_
  refine Runs_p rfl (Valid.extract _ rfl rfl rfl) rfl rfl ?_
  refine Runs_p rfl (Valid.assignk (A := Is _) rfl rfl) rfl rfl ?_
  refine Runs_p rfl (Valid.assignk (A := Is _) rfl rfl) rfl rfl ?_
  refine Runs_nil ?_
  refine thenQ_n ?_
  refine W_seq ?_
  refine W_regionE (c := 57) (c' := 101) (by kernel_rfl) rfl ?_
  refine Runs_p rfl (Valid.movek (A := SlA 1 _ _) rfl rfl) rfl rfl ?_
  refine Runs_p rfl (Valid.lenA rfl Try.underlying27 (ReadsA.sla rfl)) rfl rfl ?_
  refine Runs_p rfl (Valid.eql rfl rfl rfl) rfl rfl ?_
  refine Runs_p rfl (Valid.movek (A := Is _) rfl rfl) rfl rfl ?_
  refine Runs_yesp rfl rfl (Grd.is rfl) (by decide) (Valid.movek (A := Sl 1 _ _) rfl rfl) rfl rfl ?_
  refine Runs_yesp rfl rfl (Grd.is rfl) (by decide) (Valid.lit (el := 3) [_, _] rfl rfl (fun _ => by kernel_rfl) rfl (by decide)) rfl rfl ?_
  refine Runs_yesp rfl rfl (Grd.is rfl) (by decide) (Valid.call rfl (ksame [0, 1] (by decide)) ⟨argle_sl (Reads.sl rfl), argle_sl (Reads.sl rfl), trivial⟩) rfl rfl ?_
  refine Runs_p rfl (Valid.pickt (A := Is _) rfl rfl rfl) rfl rfl ?_
  refine Runs_p rfl (Valid.movek (A := Is _) rfl rfl) rfl rfl ?_
  refine Runs_yesp rfl rfl (Grd.is rfl) (by decide) (Valid.movek (A := Is _) rfl rfl) rfl rfl ?_
  refine Runs_yesp rfl rfl (Grd.is rfl) (by decide) (Valid.eql rfl rfl rfl) rfl rfl ?_
  refine Runs_p rfl (Valid.pickt (A := Is _) rfl rfl rfl) rfl rfl ?_
  refine Runs_p rfl (Valid.movek (A := Is _) rfl rfl) rfl rfl ?_
  refine Runs_yesp rfl rfl (Grd.is rfl) (by decide) (Valid.movek (A := SlA 1 _ _) rfl rfl) rfl rfl ?_
  refine Runs_yesp rfl rfl (Grd.is rfl) (by decide) (Valid.lit (el := 3) [_, _, _] rfl rfl (fun _ => by kernel_rfl) rfl (by decide)) rfl rfl ?_
  refine Runs_yesp rfl rfl (Grd.is rfl) (by decide) (Valid.lit (el := 3) [_, _, _] rfl rfl (fun _ => by kernel_rfl) rfl (by decide)) rfl rfl ?_
  refine Runs_yesp rfl rfl (Grd.is rfl) (by decide) (Valid.litA2 (el := 22) rfl (Reads.sl rfl) (Reads.sl rfl) (fun _ _ _ _ _ _ _ => by kernel_rfl)) rfl rfl ?_
  refine Runs_yesp rfl rfl (Grd.is rfl) (by decide) (Valid.call rfl (ls_t (a := [[1, 2, 2], [2, 1, 2]]) rfl rfl rfl rfl (by decide) (by decide)) ⟨argle_sla (ReadsA.sla rfl), argle_sla (ReadsA.sla rfl), trivial⟩) rfl rfl ?_
  refine Runs_p rfl (Valid.pickt (A := Is _) rfl rfl rfl) rfl rfl ?_
  refine Runs_p rfl (Valid.movek (A := Is _) rfl rfl) rfl rfl ?_
  refine Runs_yesp rfl rfl (Grd.is rfl) (by decide) (Valid.movek (A := Is _) rfl rfl) rfl rfl ?_
  refine Runs_yesp rfl rfl (Grd.is rfl) (by decide) (Valid.eql rfl rfl rfl) rfl rfl ?_
  refine Runs_p rfl (Valid.pickt (A := Is _) rfl rfl rfl) rfl rfl ?_
  refine Runs_p rfl (Valid.movek (A := Is _) rfl rfl) rfl rfl ?_
  refine Runs_yesp rfl rfl (Grd.is rfl) (by decide) (Valid.movek (A := Is _) rfl rfl) rfl rfl ?_
  refine Runs_yesp rfl rfl (Grd.is rfl) (by decide) (Valid.eql rfl rfl rfl) rfl rfl ?_
  refine Runs_p rfl (Valid.pickt (A := Is _) rfl rfl rfl) rfl rfl ?_
  refine Runs_p rfl (Valid.movek (A := Is _) rfl rfl) rfl rfl ?_
  refine Runs_yesp rfl rfl (Grd.is rfl) (by decide) (Valid.movek (A := Is _) rfl rfl) rfl rfl ?_
  refine Runs_yesp rfl rfl (Grd.is rfl) (by decide) (Valid.eql rfl rfl rfl) rfl rfl ?_
  refine Runs_p rfl (Valid.pickt (A := Is _) rfl rfl rfl) rfl rfl ?_
  refine Runs_p rfl (Valid.movek (A := Is _) rfl rfl) rfl rfl ?_
  refine Runs_yesp rfl rfl (Grd.is rfl) (by decide) (Valid.movek (A := Is _) rfl rfl) rfl rfl ?_
  refine Runs_yesp rfl rfl (Grd.is rfl) (by decide) (Valid.eql rfl rfl rfl) rfl rfl ?_
  refine Runs_p rfl (Valid.pickt (A := Is _) rfl rfl rfl) rfl rfl ?_
  refine Runs_p rfl (Valid.movek (A := Is _) rfl rfl) rfl rfl ?_
  refine Runs_yesp rfl rfl (Grd.is rfl) (by decide) (Valid.movek (A := Is _) rfl rfl) rfl rfl ?_
  refine Runs_yesp rfl rfl (Grd.is rfl) (by decide) (Valid.eql rfl rfl rfl) rfl rfl ?_
  refine Runs_p rfl (Valid.pickt (A := Is _) rfl rfl rfl) rfl rfl ?_
  refine Runs_p rfl (Valid.movek (A := Is _) rfl rfl) rfl rfl ?_
  refine Runs_yesp rfl rfl (Grd.is rfl) (by decide) (Valid.movek (A := Is _) rfl rfl) rfl rfl ?_
  refine Runs_yesp rfl rfl (Grd.is rfl) (by decide) (Valid.eql rfl rfl rfl) rfl rfl ?_
  refine Runs_p rfl (Valid.pickt (A := Is _) rfl rfl rfl) rfl rfl ?_
  refine Runs_p rfl (Valid.assignk (A := Is _) rfl rfl) rfl rfl ?_
  refine Runs_nil ?_
  refine thenQ_n ?_
  refine W_ret ?_
  refine finQ_r ?_
  refine ResOk.one rfl (RVal.is rfl rfl (rfl))
end Kd
end Go.Proofs.Ytdcenocljnlipaa
