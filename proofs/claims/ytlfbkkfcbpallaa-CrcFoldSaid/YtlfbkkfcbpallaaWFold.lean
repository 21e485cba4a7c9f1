/-
  THE WALK of CrcFold: it returns true, whatever it is given.
-/
import Derived.Test.YtlfbkkfcbpallaaFold
namespace Go.Proofs.Ytlfbkkfcbpallaa
open Go.RowKit
namespace CrcFold
open Crc
theorem info_u32 : (Try.prog.info? 22).map (fun i => (i.zero, i.size, i.bytes)) = some (some (.int .u32 0), 1, 4) := by kernel_rfl
theorem one_u (l : List (BitVec 32)) : ∀ u ∈ l.map U, u.oneCell' = true := by
  intro u hu
  obtain ⟨x, _, rfl⟩ := List.mem_map.1 hu
  rfl
theorem rl_bit (a : BitVec 32) (i : Nat) (hi : i < 32) : (rl a).getLsbD i = if i = 0 then a.getLsbD 31 else a.getLsbD (i - 1) := by
  unfold rl
  rw [BitVec.getLsbD_rotateLeft]
  by_cases h : i = 0
  · subst h; simp
  · rw [if_neg h]
    have : ¬ i < 1 := by omega
    simp [this, hi]
theorem rr_bit (a : BitVec 32) (i : Nat) (hi : i < 32) : (rr a).getLsbD i = if i = 31 then a.getLsbD 0 else a.getLsbD (i + 1) := by
  unfold rr
  rw [BitVec.getLsbD_rotateLeft]
  by_cases h : i = 31
  · subst h; simp
  · rw [if_neg h]
    have : i < 31 := by omega
    simp [this, Nat.add_comm]
theorem rr_rl (a : BitVec 32) : rr (rl a) = a := by
  apply BitVec.eq_of_getLsbD_eq
  intro i hi
  rw [rr_bit _ _ hi]
  by_cases h : i = 31
  · subst h; rw [if_pos rfl, rl_bit _ _ (by omega), if_pos rfl]
  · rw [if_neg h, rl_bit _ _ (by omega), if_neg (by omega)]; rfl
theorem rl_rr (a : BitVec 32) : rl (rr a) = a := by
  apply BitVec.eq_of_getLsbD_eq
  intro i hi
  rw [rl_bit _ _ hi]
  by_cases h : i = 0
  · subst h; rw [if_pos rfl, rr_bit _ _ (by omega), if_pos rfl]
  · rw [if_neg h, rr_bit _ _ (by omega), if_neg (by omega), show i - 1 + 1 = i by omega]
theorem unfold_fold (a b : BitVec 32) : unfold' (fold a b) b = a := by
  unfold unfold' fold
  rw [BitVec.xor_assoc, BitVec.xor_self, BitVec.xor_zero, rr_rl]
theorem fold_unfold (a b : BitVec 32) : fold (unfold' a b) b = a := by
  unfold unfold' fold
  rw [rl_rr, BitVec.xor_assoc, BitVec.xor_self, BitVec.xor_zero]
theorem rl_xor (a b : BitVec 32) : rl (a ^^^ b) = rl a ^^^ rl b := by
  apply BitVec.eq_of_getLsbD_eq
  intro i hi
  rw [BitVec.getLsbD_xor, rl_bit _ _ hi, rl_bit _ _ hi, rl_bit _ _ hi]
  split <;> rw [BitVec.getLsbD_xor]
theorem foldl_xor (l : List (BitVec 32)) : ∀ a e : BitVec 32, ∃ e', (e' = 0#32 ↔ e = 0#32) ∧ l.foldl fold (a ^^^ e) = l.foldl fold a ^^^ e' := by
  induction l with
  | nil => intro a e; exact ⟨e, Iff.rfl, rfl⟩
  | cons b l ih =>
    intro a e
    obtain ⟨e', h1, h2⟩ := ih (fold a b) (rl e)
    refine ⟨e', h1.trans ⟨fun h => ?_, fun h => by subst h; decide⟩, ?_⟩
    · rw [← rr_rl e, h]; decide
    · simp only [List.foldl_cons]
      rw [← h2]
      congr 1
      unfold fold
      rw [rl_xor, BitVec.xor_assoc, BitVec.xor_comm (rl e), ← BitVec.xor_assoc]
theorem all_set (ys : List (BitVec 32)) (q : Nat) (hq : q < ys.length) (D : BitVec 32) :
    ((((all (ys.set q (ys[q] ^^^ D))).toNat : Int) == ((all ys).toNat : Int)) == ((D.toNat : Int) == 0)) = true := by
  have e1 : ys = ys.take q ++ ys[q] :: ys.drop (q + 1) := by simp
  have e2 : ys.set q (ys[q] ^^^ D) = ys.take q ++ (ys[q] ^^^ D) :: ys.drop (q + 1) := by
    rw [List.set_eq_take_append_cons_drop, if_pos hq]
  have a1 : all ys = (ys.drop (q + 1)).foldl fold (fold (all (ys.take q)) ys[q]) := by
    conv => lhs; rw [e1]
    unfold all
    rw [List.foldl_append, List.foldl_cons]
  have a2 : all (ys.set q (ys[q] ^^^ D)) = (ys.drop (q + 1)).foldl fold (fold (all (ys.take q)) ys[q] ^^^ D) := by
    rw [e2]
    simp [all, List.foldl_append, fold, BitVec.xor_assoc]
  obtain ⟨e', h1, h2⟩ := foldl_xor (ys.drop (q + 1)) (fold (all (ys.take q)) ys[q]) D
  rw [a2, h2, a1]
  generalize (ys.drop (q + 1)).foldl fold (fold (all (ys.take q)) ys[q]) = A
  by_cases hD : D = 0#32
  · have he := h1.2 hD
    subst hD; subst he
    simp
  · have he : e' ≠ 0#32 := fun h => hD (h1.1 h)
    have n1 : (((A ^^^ e').toNat : Int) == (A.toNat : Int)) = false := by
      rw [beq_eq_false_iff_ne]
      intro h
      apply he
      have h3 : A ^^^ e' = A := BitVec.eq_of_toNat_eq (by omega)
      have := congrArg (A ^^^ ·) h3
      simpa [← BitVec.xor_assoc] using this
    have n2 : ((D.toNat : Int) == 0) = false := by
      rw [beq_eq_false_iff_ne]
      intro h
      exact hD (BitVec.eq_of_toNat_eq (by simpa using h))
    rw [n1, n2]; rfl
set_option maxHeartbeats 1000000 in
theorem walk (v : Value) (n : Nat) (xs : List (BitVec 32)) (c d k : Int) (C D : BitVec 32) (w : World) (hsl : Kit.Sl w 1 v n (xs.map U)) (hc : c = (C.toNat : Int)) (hd : d = (D.toNat : Int)) (k1 : -9223372036854775808 ≤ k) (k2 : k ≤ 9223372036854775807) :
    Calls Try.prog 7 #[v, .int .u32 c, .int .u32 d, .int .i64 k] w fun e w' => e = .returned (.bool true) ∧ Below w.heap.size w w' := by
  obtain ⟨i0, hi, hz0, hz1, hz2⟩ := info_parts info_u32
  have Hi := Lib.hid hi
  have Hz0 := Lib.hid hz0
  have Hz1 := Lib.hid hz1
  have Hz2 := Lib.hid hz2
  subst hc hd
  have Hn1 : Hid (((C.toNat : Int) != (C.toNat : Int)) = false) := by simp [Hid]
  clear hi hz0 hz1 hz2
  have h' := hsl
  obtain ⟨hl, ⟨rfl, rfl⟩ | ⟨a, cap, rfl, h1, h2, hcell⟩⟩ := h'
  case' inl =>
    obtain rfl : xs = [] := List.eq_nil_of_length_eq_zero (by simpa using hl)
    obtain ⟨ys, eys⟩ : ∃ ys : List (BitVec 32), ys = [] := ⟨_, rfl⟩
    obtain ⟨m, em⟩ : ∃ m : Nat, m = 0 := ⟨_, rfl⟩
    have Hl : Hid (ys.length = m) := by subst eys em; exact rfl
    have Eys := Lib.hid eys
    have Em := Lib.hid em
    have hm' : m ≤ 40 := by omega
    have hmn : m ≤ 0 := by omega
    clear hl eys em
    go_enter Try.func7, Try.ntmps7
    go_wp2_with fail
    refine (awake_at _).mono ?_
    rintro e w1 ⟨rfl, hb1⟩
    go_wp2_with fail
    have Hs1 : Hid (Kit.Sl w1 1 (.slice none 0 0) m (ys.map U)) := by
      rw [Em.out, Eys.out]; exact Kit.Sl.nil _ _
  case' inr =>
    clear hcell
    have hl' : xs.length = n := by simpa using hl
    have Hl0 := Lib.hid hl'
    clear hl hl'
    unfold maxLen at h2
    obtain ⟨m, hmn, hm', hmm⟩ : ∃ m : Nat, m ≤ n ∧ m ≤ 40 ∧ (n ≤ m ∨ 40 ≤ m) := ⟨min n 40, by omega, by omega, by omega⟩
    go_enter Try.func7, Try.ntmps7
    go_wp2_with fail
    refine (awake_at _).mono ?_
    rintro e w1 ⟨rfl, hb1⟩
    go_wp2_with fail
    all_goals first
      | (have e40 : 40 = m := by omega
         simp only [e40]
         clear e40)
      | (have en : m = n := by omega
         subst en)
    all_goals
      have Hs1 : Hid (Kit.Sl w1 1 (.slice (some a) m cap) m ((xs.take m).map U)) := by
        have := (hsl.take m hmn).below hb1
        rw [Nat.mul_one, ← List.map_take] at this; exact this
      obtain ⟨ys, eys⟩ : ∃ ys, xs.take m = ys := ⟨_, rfl⟩
      rw [eys] at Hs1
      have Hl : Hid (ys.length = m) := by rw [← eys]; simp [Hid]; have := Hl0.out; omega
      clear eys
  all_goals
    clear hsl
    refine (all_at _ m ys _ Hs1.out).mono ?_
    rintro e w2 ⟨rfl, rfl⟩
    go_wp2_with fail
    refine (fold_at _ _ C D _ rfl rfl).mono ?_
    rintro e w2 ⟨rfl, rfl⟩
    go_wp2_with fail
    refine (unfold_at _ _ (fold C D) D _ rfl rfl).mono ?_
    rw [unfold_fold]
    rintro e w2 ⟨rfl, rfl⟩
    go_wp2_with fail
    refine (unfold_at _ _ C D _ rfl rfl).mono ?_
    rintro e w2 ⟨rfl, rfl⟩
    go_wp2_with fail
    refine (fold_at _ _ (unfold' C D) D _ rfl rfl).mono ?_
    rw [fold_unfold]
    rintro e w2 ⟨rfl, rfl⟩
    have c1 : 0 + m ≤ maxLen := by unfold maxLen; omega
    have c2 : (0 + m) * 4 ≤ 140737488355328 := by omega
    have c3 : 0 + m + 1 ≤ maxLen := by unfold maxLen; omega
    have c4 : (0 + m + 1) * 4 ≤ 140737488355328 := by omega
    have c5 : 1 ≤ maxLen := by unfold maxLen; omega
    have on1 := one_u ys
    have on2 : ∀ u ∈ [Value.int .u32 (C.toNat : Int)], u.oneCell' = true := by simp [Value.oneCell']
    go_wp2_with (first
      | (at_builtin; (refine Kit.wpList_want rfl ?_; refine Kit.wpList_append_any rfl (.const (.slice none 0 0)) (.tmp 39) 23 rfl w1.heap.size 22 i0 (.int .u32 0) 1 4 Try.underlying23 Hi.out Hz0.out Hz1.out Hz2.out rfl (by decide) (.slice none 0 0) 0 [] rfl (World.ownsRow_nil _ _ _ _) _ m (ys.map U) rfl Hs1.out on1 c1 c2 (Nat.le_refl _) ?_); intro v2 w2 hown2 hg2)
      | (at_builtin; (refine Kit.wpList_want rfl ?_; refine Kit.wpList_append_any rfl (.tmp 40) (.tmp 42) 23 rfl w1.heap.size 22 i0 (.int .u32 0) 1 4 Try.underlying23 Hi.out Hz0.out Hz1.out Hz2.out rfl (by decide) v2 _ _ rfl (hown2.alloc _) _ 1 [.int .u32 (C.toNat : Int)] rfl (Kit.Sl.lit _ #[.int .u32 (C.toNat : Int)] 22 1 1 rfl c5) on2 c3 c4 (Kit.le_alloc hg2.size _) ?_); intro v3 w3 hown3 hg3))
  all_goals
    have hs3 : Kit.Sl w3 1 v3 (0 + m + 1) ((ys ++ [C]).map U) := by
      have := Kit.Sl.own hown3
      simpa [U] using this
    have Hown3 := Lib.hid hown3
    have Hg3 := Lib.hid hg3
    have Hown2 := Lib.hid hown2
    have Hg2 := Lib.hid hg2
    clear hown2 hown3 hg2 hg3 on1 on2
    refine (all_at v3 _ (ys ++ [C]) _ hs3).mono ?_
    rw [all_snoc]
    clear hs3
    rintro e w4 ⟨rfl, rfl⟩
    go_wp2_with fail
    refine (fold_at _ _ (all ys) C _ rfl rfl).mono ?_
    rintro e w4 ⟨rfl, rfl⟩
  all_goals go_wp2_with fail
  all_goals
    have hB1 : Below w1.heap.size w1 w3 := by
      have b2 := (Below.refl w1.heap.size w1).grown Hg2.out (Nat.le_refl _) (fun j e => by cases e)
      exact (b2.alloc b2.size (.cells #[.int .u32 (C.toNat : Int)] 22)).grown Hg3.out (Kit.le_alloc b2.size _) (fun j e => (Hown2.out.lt j e).1)
    have HB3 : Hid (Below w.heap.size w w3) := hb1.trans (hB1.mono hb1.size)
    have HB1 := Lib.hid hB1
    clear hb1 hB1
  all_goals first
    | (have hne : ((m : Int) == 0) = false := by assumption
       have hm1 : 1 ≤ m := by have := hne; simp at this; omega
       have Hs4 : Hid (Kit.Sl w3 1 (.slice (some a) m cap) m (ys.map U)) := Hs1.out.below HB1.out
       refine (pick_at k m _ k1 k2 (by omega) (by omega)).mono ?_
       rintro e w5 ⟨⟨q, hq, rfl⟩, rfl⟩
       have hql : q < ys.length := by have := Hl.out; omega
       have hyq : (ys.map U)[q]? = some (.int .u32 (ys[q].toNat : Int)) := by simp [hql, U]
       have on1 := one_u ys
       go_wp2_with (at_builtin; refine Kit.wpList_append_any rfl (.const (.slice none 0 0)) (.tmp 62) 23 rfl w3.heap.size 22 i0 (.int .u32 0) 1 4 Try.underlying23 Hi.out Hz0.out Hz1.out Hz2.out rfl (by decide) (.slice none 0 0) 0 [] rfl (World.ownsRow_nil _ _ _ _) _ m (ys.map U) rfl Hs4.out on1 c1 c2 (Nat.le_refl _) ?_; intro v6 w6 hown6 hg6; simp only [Nat.zero_add, List.nil_append] at hown6; obtain ⟨g6, cap6, rfl, hgb6, hcap6, hmx6⟩ := Kit.own_pos hown6 hm1; have hcl6 := hown6.cellAt q (by omega); have hfr6 := hown6.frozenAt q; rw [hyq] at hcl6; have Hown6 := Lib.hid hown6; clear hown6; have Hg6 := Lib.hid hg6; clear hg6; unfold maxLen at hmx6)
       have hs7 : Kit.Sl (w6.setCell ⟨g6, q, none⟩ (.int .u32 (bits BinOp.xor .u32 (ys[q].toNat : Int) (D.toNat : Int)))) 1 (.slice (some ⟨g6, 0, none⟩) m cap6) m ((ys.set q (ys[q] ^^^ D)).map U) := by
         have := Kit.Sl.own (Hown6.out.stored q (.int .u32 (bits BinOp.xor .u32 (ys[q].toNat : Int) (D.toNat : Int)))).1
         rw [List.map_set, U, ← xor_u]; exact this
       have hB7 : Below w.heap.size w (w6.setCell ⟨g6, q, none⟩ (.int .u32 (bits BinOp.xor .u32 (ys[q].toNat : Int) (D.toNat : Int)))) :=
         HB3.out.trans ((((Below.refl w3.heap.size w3).grown Hg6.out (Nat.le_refl _) (fun j e => by cases e)).setCell hgb6 _).mono HB3.out.size)
       have HB7 := Lib.hid hB7
       clear hB7 hcl6 hfr6 hyq on1
       refine (all_at _ m _ _ hs7).mono ?_
       clear hs7
       have htest := all_set ys q hql D
       have htest2 := Lib.hid htest
       clear htest
       rintro e w8 ⟨rfl, rfl⟩
       go_wp2_with fail
       go_ret
       exact ⟨Kit.ret_bool htest2.out, HB7.out⟩)
    | skip
  all_goals
    go_ret
    refine ⟨Kit.ret_bool ?_, HB3.out⟩
    have hm0 : m = 0 := by first | omega | (have h0 : ((m : Int) == 0) = true := by assumption
                                            simp at h0; omega)
    have hy0 : ys = [] := List.eq_nil_of_length_eq_zero (by have := Hl.out; omega)
    subst hy0
    rfl
theorem toU (z : List Int) (hz : ∀ x ∈ z, (Lit.int .u32 x).wf = true) : ∃ xs : List (BitVec 32), z.map (Value.int .u32) = xs.map U := by
  refine ⟨z.map (BitVec.ofInt 32), ?_⟩
  rw [List.map_map]
  apply List.map_congr_left
  intro x hx
  have h := hz x hx
  simp [Lit.wf, IntKind.min, IntKind.max, IntKind.signed, IntKind.bits] at h
  simp only [Function.comp, U, BitVec.toNat_ofInt]
  congr 1
  omega
theorem wf_u (x : Int) (h : (Lit.int .u32 x).wf = true) : ∃ c : BitVec 32, x = (c.toNat : Int) := by
  simp [Lit.wf, IntKind.min, IntKind.max, IntKind.signed, IntKind.bits] at h
  exact ⟨BitVec.ofInt 32 x, by rw [BitVec.toNat_ofInt]; omega⟩
theorem whole {W : World} (v : Value) (n : Nat) (z : List Int) (s : Kit.Sl W 1 v n (z.map (Value.int .u32))) (l : z.length = n) (hz : ∀ x ∈ z, (Lit.int .u32 x).wf = true)
    (c : Int) (wc : (Lit.int .u32 c).wf = true) (d : Int) (wd : (Lit.int .u32 d).wf = true) (k : Int) (wk : (Lit.int .i64 k).wf = true) :
    Calls Try.prog 7 #[v, .int .u32 c, .int .u32 d, .int .i64 k] W fun e w' => e = .returned (.bool true) ∧ Below W.heap.size W w' := by
  obtain ⟨xs, hx⟩ := toU z hz
  obtain ⟨C, hC⟩ := wf_u c wc
  obtain ⟨D, hD⟩ := wf_u d wd
  rw [hx] at s
  have hk : -9223372036854775808 ≤ k ∧ k ≤ 9223372036854775807 := by simpa [Lit.wf, IntKind.min, IntKind.max, IntKind.signed, IntKind.bits] using wk
  exact walk v n xs c d k C D _ s hC hD hk.1 hk.2
end CrcFold
end Go.Proofs.Ytlfbkkfcbpallaa
