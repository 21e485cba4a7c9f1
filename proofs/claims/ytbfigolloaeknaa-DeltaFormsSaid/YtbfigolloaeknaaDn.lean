/-
  MATHS of stage 9: how many bits there are.
-/
import Derived.Test.YtbfigolloaeknaaRows
import Derived.Test.YtbfigolloaeknaaMgc
import Derived.Test.YtbfigolloaeknaaDd
import Derived.Test.YtbfigolloaeknaaDa
import Derived.Test.YtbfigolloaeknaaDb
import Derived.Test.YtbfigolloaeknaaDc
import Derived.Test.YtbfigolloaeknaaDe
import Derived.Test.YtbfigolloaeknaaDf
import Derived.Test.YtbfigolloaeknaaDg
import Derived.Test.YtbfigolloaeknaaMha
import Derived.Test.YtbfigolloaeknaaCa
import Derived.Test.YtbfigolloaeknaaCm
import Derived.Test.YtbfigolloaeknaaDm
namespace Go.Proofs.Ytbfigolloaeknaa
open Go.RowKit
namespace Dn
open Ab Bm Bt Dd Da Db Dc De Df Dg Bb Ca Cm Dm

def df (a b : Int) : Nat := (b - a).toNat + (a - b).toNat
theorem df_self (a : Int) : df a a = 0 := by unfold df; omega
theorem df_sym (a b : Int) : df a b = df b a := by unfold df; omega
theorem df_zero {a b : Int} (h : df a b = 0) : a = b := by unfold df at h; omega
theorem df_max (a b : Int) : (df a b : Int) = max (b - a) (a - b) := by unfold df; omega
/-- the steps of the first k lengths -/
def smK (l : List Int) : Nat → Nat
  | 0 => 0
  | k + 1 => smK l k + df (l.getD (k - 1) 0) (l.getD k 0)
theorem dps_n (l : List Int) : ∀ k, (dps l k).flatten.length = 5 + k + 2 * smK l k
  | 0 => by simp [dps, num_len, smK]
  | k + 1 => by
    rw [dps_s, List.flatten_append, List.length_append, dps_n l k, smK]
    simp only [List.flatten_cons, List.flatten_nil, List.append_nil, chgB_len]
    unfold df; omega
theorem dB_n (l : List Int) : (dB l).length = 5 + l.length + 2 * smK l l.length := dps_n l l.length
theorem smK_cong {l m : List Int} : ∀ k, (∀ j, j < k → l.getD j 0 = m.getD j 0) → smK l k = smK m k
  | 0, _ => rfl
  | k + 1, h => by
    rw [smK, smK, smK_cong k (fun j hj => h j (by omega)), h k (by omega), h (k - 1) (by omega)]
theorem dps_cong {l m : List Int} : ∀ k, 0 < k → (∀ j, j < k → l.getD j 0 = m.getD j 0) → dps l k = dps m k
  | 0, h0, _ => by omega
  | 1, _, h => by unfold dps; simp only [List.range_one, List.map_cons, List.map_nil]; rw [h 0 (by omega)]
  | k + 2, _, h => by
    rw [dps_s l (k + 1), dps_s m (k + 1), dps_cong (k + 1) (by omega) (fun j hj => h j (by omega)), h (k + 1) (by omega), h (k + 1 - 1) (by omega)]
theorem gd_l (l : List Int) (x : Int) {j : Nat} (h : j < l.length) : (l ++ [x]).getD j 0 = l.getD j 0 := by
  rw [List.getD_eq_getElem?_getD, List.getD_eq_getElem?_getD, List.getElem?_append_left h]
theorem gd_e (l : List Int) (x : Int) : (l ++ [x]).getD l.length 0 = x := by
  rw [List.getD_eq_getElem?_getD, List.getElem?_append_right (Nat.le_refl _)]; simp
theorem dB_snoc {l : List Int} (h : 0 < l.length) (x : Int) : dB (l ++ [x]) = dB l ++ chgB (l.getD (l.length - 1) 0) x := by
  unfold dB
  rw [List.length_append, List.length_singleton, dps_s, List.flatten_append, dps_cong (m := l) l.length h (fun j hj => gd_l l x hj), gd_l l x (by omega), gd_e]
  simp
/-- the steps, from the front -/
def sm : List Int → Nat
  | [] => 0
  | [_] => 0
  | x :: y :: t => df x y + sm (y :: t)
theorem smK_cons (x y : Int) (t : List Int) : ∀ k, smK (x :: y :: t) (k + 2) = df x y + smK (y :: t) (k + 1)
  | 0 => by
    show 0 + df x x + df x y = df x y + (0 + df y y)
    rw [df_self, df_self]; omega
  | k + 1 => by
    rw [smK, smK_cons x y t k, show smK (y :: t) (k + 1 + 1) = smK (y :: t) (k + 1) + df ((y :: t).getD (k + 1 - 1) 0) ((y :: t).getD (k + 1) 0) from rfl]
    rw [show (x :: y :: t).getD (k + 1 + 1) 0 = (y :: t).getD (k + 1) 0 from rfl, show (x :: y :: t).getD (k + 1 + 1 - 1) 0 = (y :: t).getD k 0 from rfl, show k + 1 - 1 = k from rfl]
    omega
theorem smK_all : ∀ l : List Int, smK l l.length = sm l
  | [] => rfl
  | [x] => by show 0 + df x x = 0; rw [df_self]
  | x :: y :: t => by
    show smK (x :: y :: t) (t.length + 2) = df x y + sm (y :: t)
    rw [smK_cons, ← smK_all (y :: t)]; rfl
theorem sm_two : ∀ (l : List Int) (y x : Int), sm (l ++ [y, x]) = sm (l ++ [y]) + df y x
  | [], y, x => by show df y x + 0 = 0 + df y x; omega
  | [a], y, x => by show df a y + (df y x + 0) = df a y + 0 + df y x; omega
  | a :: b :: t, y, x => by
    have ih := sm_two (b :: t) y x
    show df a b + sm ((b :: t) ++ [y, x]) = df a b + sm ((b :: t) ++ [y]) + df y x
    omega
theorem sm_rev : ∀ l : List Int, sm l.reverse = sm l
  | [] => rfl
  | [_] => rfl
  | x :: y :: t => by
    have ih := sm_rev (y :: t)
    rw [List.reverse_cons] at ih
    rw [List.reverse_cons, List.reverse_cons, List.append_assoc]
    show sm (t.reverse ++ [y, x]) = _
    rw [sm_two, ih, df_sym]
    show sm (y :: t) + df x y = df x y + sm (y :: t)
    omega
theorem dB_rev (l : List Int) : (dB l.reverse).length = (dB l).length := by
  rw [dB_n, dB_n, smK_all, smK_all, sm_rev, List.length_reverse]
theorem gd_rev {l : List Int} (h : ∀ x ∈ l, Da.good x) : ∀ x ∈ l.reverse, Da.good x := fun x hx => h x (List.mem_reverse.1 hx)
theorem gd_snoc {l : List Int} (h : ∀ x ∈ l, Da.good x) {y : Int} (hy : Da.good y) : ∀ x ∈ l ++ [y], Da.good x := fun x hx => by
  rcases List.mem_append.1 hx with h1 | h1
  · exact h x h1
  · simp at h1; rw [h1]; exact hy
theorem same_front (a b : List Bool) : same (pack (a ++ b)).data.toList 0 a = true := by
  unfold same
  have h := bitsAt_enc [] a b
  simp only [List.nil_append, List.length_nil] at h
  rw [pack_list, show (0 : Int).toNat = 0 from rfl, h, enc_len, List.length_append]
  simp; omega
/-- all as the first one -/
def alk (l : List Int) : Nat → List Int
  | 0 => l
  | k + 1 => (alk l k).set k (l.getD 0 0)
theorem alk_len (l : List Int) : ∀ k, (alk l k).length = l.length
  | 0 => rfl
  | k + 1 => by rw [alk, List.length_set, alk_len l k]
theorem alk_at (l : List Int) : ∀ k j, j < k → j < l.length → (alk l k).getD j 0 = l.getD 0 0
  | 0, _, h, _ => by omega
  | k + 1, j, h, hj => by
    have hl := alk_len l k
    rw [alk, List.getD_eq_getElem?_getD, List.getElem?_set]
    by_cases e : k = j
    · rw [if_pos e, if_pos (by omega)]; rfl
    · rw [if_neg e, ← List.getD_eq_getElem?_getD]; exact alk_at l k j (by omega) hj
theorem alk_gd {l : List Int} (h : ∀ x ∈ l, Da.good x) (h0 : 0 < l.length) : ∀ k, ∀ x ∈ alk l k, Da.good x
  | 0 => h
  | k + 1 => fun x hx => by
    rw [alk] at hx
    rcases List.mem_or_eq_of_mem_set hx with h1 | h1
    · exact alk_gd h h0 k x h1
    · rw [h1]; exact h _ (getD_mem' h0)
theorem sm_zero {l : List Int} : ∀ k, (smK l k = 0 ↔ ∀ j, j < k → l.getD j 0 = l.getD 0 0)
  | 0 => ⟨fun _ j hj => by omega, fun _ => rfl⟩
  | k + 1 => by
    have ih := sm_zero (l := l) k
    rw [smK]
    constructor
    · intro h j hj
      have h1 := ih.1 (by omega)
      by_cases e : j = k
      · have h2 := df_zero (show df (l.getD (k - 1) 0) (l.getD k 0) = 0 by omega)
        rw [e, ← h2]
        by_cases k0 : k = 0
        · rw [k0]
        · exact h1 (k - 1) (by omega)
      · exact h1 j (by omega)
    · intro h
      have h1 := ih.2 (fun j hj => h j (by omega))
      rw [h1, h k (by omega)]
      by_cases k0 : k = 0
      · rw [k0, df_self]
      · rw [h (k - 1) (by omega), df_self]
theorem alk_n (l : List Int) : (dB (alk l l.length)).length = 5 + l.length := by
  have h := (sm_zero (l := alk l l.length) l.length).2 (fun j hj => by rw [alk_at l l.length j hj hj, alk_at l l.length 0 (by omega) (by omega)])
  rw [dB_n, alk_len, h]; rfl
theorem alk_eq {l : List Int} (_h0 : 0 < l.length) (h : (dB l).length = 5 + l.length) : l = alk l l.length := by
  rw [dB_n] at h
  have h1 := (sm_zero (l := l) l.length).1 (by omega)
  apply List.ext_getElem (by rw [alk_len])
  intro j hj hj2
  have e1 := h1 j hj
  have e2 := alk_at l l.length j hj hj
  rw [List.getD_eq_getElem?_getD, List.getElem?_eq_getElem hj] at e1
  rw [List.getD_eq_getElem?_getD (l := alk l l.length), List.getElem?_eq_getElem hj2] at e2
  show l[j] = (alk l l.length)[j]
  have e1 : l[j] = l.getD 0 0 := e1
  have e2 : (alk l l.length)[j] = l.getD 0 0 := e2
  rw [e1, e2]
end Dn
end Go.Proofs.Ytbfigolloaeknaa
