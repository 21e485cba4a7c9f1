/-
  THE WALK of CrcBurst: it returns true, whatever it is given.
-/
import Derived.Test.YtlfbkkfcbpallaaWLine
import Derived.Test.YtlfbkkfcbpallaaBits
namespace Go.Proofs.Ytlfbkkfcbpallaa
open Go.RowKit
namespace CrcBurst
open Crc CrcMore CrcLine
/-- u behind i rounds -/
def st (T : List UInt8) (t : BitVec 32) (k : Nat) : Nat → List UInt8
  | 0 => T
  | i + 1 => if t.getLsbD i then (st T t k i).set ((k + i) / 8) ((st T t k i).getD ((k + i) / 8) 0 ^^^ UInt8.ofNat (128 >>> ((k + i) % 8))) else st T t k i
def any (t : BitVec 32) : Nat → Bool
  | 0 => false
  | i + 1 => any t i || t.getLsbD i
theorem st_len (T : List UInt8) (t : BitVec 32) (k : Nat) : ∀ i, (st T t k i).length = T.length
  | 0 => rfl
  | i + 1 => by simp only [st]; split <;> simp [st_len T t k i]
theorem flip_bit (b : UInt8) (r q : Nat) (hr : r < 8) (hq : q < 8) : bitAt (b ^^^ UInt8.ofNat (128 >>> r)) q = ((bitAt b q) ^^ decide (q = r)) := by
  have h : ∀ r, r < 8 → ∀ q, q < 8 → (UInt8.ofNat (128 >>> r)).toBitVec.getLsbD (7 - q) = decide (q = r) := by decide
  unfold bitAt
  rw [UInt8.toBitVec_xor, BitVec.getLsbD_xor, h r hr q hq]
theorem flip_text (l : List UInt8) (p j : Nat) (hp : p < 8 * l.length) : bit (l.set (p / 8) (l.getD (p / 8) 0 ^^^ UInt8.ofNat (128 >>> (p % 8)))) j = ((bit l j) ^^ decide (j = p)) := by
  unfold bit
  by_cases e : p / 8 = j / 8
  · have hlt : j / 8 < l.length := by omega
    rw [← e, List.getD_eq_getElem?_getD, List.getElem?_set_self (by omega), Option.getD_some, flip_bit _ _ _ (by omega) (by omega)]
    congr 1
    rw [decide_eq_decide]
    omega
  · have h1 : (l.set (p / 8) (l.getD (p / 8) 0 ^^^ UInt8.ofNat (128 >>> (p % 8)))).getD (j / 8) 0 = l.getD (j / 8) 0 := by
      rw [List.getD_eq_getElem?_getD, List.getElem?_set_ne e, ← List.getD_eq_getElem?_getD]
    rw [h1]
    have : ¬ j = p := by intro h; subst h; exact e rfl
    simp [this]
theorem st_bit (T : List UInt8) (t : BitVec 32) (k j : Nat) : ∀ i, k + i ≤ 8 * T.length → bit (st T t k i) j = ((bit T j) ^^ (decide (k ≤ j) && decide (j < k + i) && t.getLsbD (j - k)))
  | 0, _ => by
    have : ¬ (k ≤ j ∧ j < k + 0) := by omega
    by_cases h : k ≤ j
    · simp [st, show ¬ j < k by omega]
    · simp [st, h]
  | i + 1, h => by
    have ih := st_bit T t k j i (by omega)
    simp only [st]
    by_cases hb : t.getLsbD i = true
    · rw [if_pos hb, flip_text _ _ _ (by rw [st_len]; omega), ih]
      by_cases e : j = k + i
      · subst e
        simp [hb]
      · by_cases h1 : k ≤ j
        · by_cases h2 : j < k + i
          · simp [e, h1, h2, show j < k + (i + 1) by omega]
          · simp [e, h1, h2, show ¬ j < k + (i + 1) by omega]
        · simp [e, h1]
    · rw [if_neg hb, ih]
      by_cases e : j = k + i
      · subst e
        simp [hb]
      · by_cases h1 : k ≤ j
        · by_cases h2 : j < k + i
          · simp [h1, h2, show j < k + (i + 1) by omega]
          · simp [h1, h2, show ¬ j < k + (i + 1) by omega]
        · simp [h1]
theorem any_none (t : BitVec 32) : ∀ i, any t i = false ↔ ∀ j, j < i → t.getLsbD j = false
  | 0 => by simp [any]
  | i + 1 => by
    simp only [any, Bool.or_eq_false_iff, any_none t i]
    exact ⟨fun ⟨h1, h2⟩ j hj => by by_cases e : j = i; (subst e; exact h2); exact h1 j (by omega), fun h => ⟨fun j hj => h j (by omega), h i (by omega)⟩⟩
theorem fin (T : List UInt8) (t : BitVec 32) (k i : Nat) (hi : i ≤ 32) (hk : k + i ≤ 8 * T.length) :
    (((more 0#32 T).toNat : Int) == ((more 0#32 (st T t k i)).toNat : Int)) = !any t i := by
  have h := burst (~~~ 0#32) T (st T t k i) (st_len T t k i) k i hi hk t.getLsbD (fun j _ => st_bit T t k j i hk)
  rw [← any_none] at h
  rw [beq_u, Bool.eq_iff_iff]
  simp only [beq_iff_eq, Bool.not_eq_true']
  rw [← h]
  constructor
  · intro e
    have := congrArg (~~~ ·) e
    simpa [more] using this.symm
  · intro e
    unfold more; rw [e]
theorem flip_val (y : UInt8) (r : Nat) (hr : r < 8) : bits BinOp.xor IntKind.u8 (y.toNat : Int) (128 / 2 ^ r) = ((y ^^^ UInt8.ofNat (128 >>> r)).toNat : Int) := by
  have h : ∀ r : Nat, r < 8 → ((128 : Int) / (2 : Int) ^ r) = (((UInt8.ofNat (128 >>> r)).toNat : Nat) : Int) := by decide
  rw [h r hr, xor_b]
theorem bit_test (t : BitVec 32) (i : Nat) : (((t.toNat : Int) / 2 ^ i).tmod 2 == 1) = t.getLsbD i := by
  have e : (t.toNat : Int) / 2 ^ i = ((t.toNat / 2 ^ i : Nat) : Int) := by simp
  rw [e, Bool.eq_iff_iff, beq_iff_eq]
  rw [BitVec.getLsbD, Nat.testBit_eq_decide_div_mod_eq]
  simp only [decide_eq_true_eq]
  generalize t.toNat / 2 ^ i = q
  rw [Int.tmod_eq_emod_of_nonneg (by omega)]
  omega
set_option maxRecDepth 100000 in
set_option maxHeartbeats 1000000 in
theorem walk {w : World} (s : ByteArray) (hs : s.size ≤ maxLen) (at_ : Int) (wat : (Lit.int .i64 at_).wf = true) (t : Int) (t' : BitVec 32) (ht : t = (t'.toNat : Int)) :
    Calls Try.prog 5 #[.string s, .int .i64 at_, .int .u32 t] w fun e w' => e = .returned (.bool true) ∧ Below w.heap.size w w' := by
  subst ht
  have hat : -9223372036854775808 ≤ at_ ∧ at_ ≤ 9223372036854775807 := by simpa [Lit.wf, IntKind.min, IntKind.max, IntKind.signed, IntKind.bits] using wat
  obtain ⟨hat1, hat2⟩ := hat
  unfold maxLen at hs
  obtain ⟨i0, hi, hz0, hz1, hz2⟩ := info_parts info_u8
  have Hi := Lib.hid hi
  have Hz0 := Lib.hid hz0
  have Hz1 := Lib.hid hz1
  have Hz2 := Lib.hid hz2
  clear hi hz0 hz1 hz2 wat
  go_enter Try.func5, Try.ntmps5
  go_wp2_with fail
  refine (awake_at _).mono ?_
  rintro e w1 ⟨rfl, hb1⟩
  have HB1 := Lib.hid hb1
  clear hb1
  have ha0 : ∀ m : Nat, m ≤ 60 → (s.extract 0 m).size ≤ maxLen := by intro m hm; simp [maxLen]; omega
  have Ha0 := Lib.hid ha0
  clear ha0
  go_wp2_with (first
    | (refine Kit.wpList_min rfl (.tmp 16) (.const (.int .i64 60)) 3 rfl s.size 60 rfl rfl ?_; intro m hm1 hm2 hm3)
    | (refine Kit.wpList_to_bytes rfl 9 32 5 (.tmp 18) rfl Try.underlying32 Try.underlying5 Try.underlying9 (s.extract 0 m) rfl (Ha0.out m hm2) ?_; intro b cap w2 hb hcap hmx hb2 hread))
  · go_ret
    exact ⟨rfl, HB1.out.trans (hb2.mono HB1.out.size)⟩
  · have hne : ((m : Int) == 0) = false := by assumption
    have hm0 : 1 ≤ m := by simp at hne; omega
    have hT : (s.extract 0 m).data.toList.length = m := by simp; omega
    obtain ⟨T, hTT⟩ : ∃ T, (s.extract 0 m).data.toList = T := ⟨_, rfl⟩
    have hsl : Kit.Sl w2 1 (.slice (some ⟨b, 0, none⟩) m cap) m (T.map Kit.B) := by
      refine ⟨by rw [← hTT, List.length_map, hT]; omega, .inr ⟨_, cap, rfl, by simp at hcap; omega, hmx, fun j u hj => ⟨rfl, ?_⟩⟩⟩
      have := (hread j u (by rw [hTT]; exact hj)).1
      simpa using this
    rw [hTT] at hT
    have HT := Lib.hid hT
    have HS := Lib.hid hsl
    have HB2 : Hid (Below w.heap.size w w2) := HB1.out.trans (hb2.mono HB1.out.size)
    have hcap' : m ≤ cap := by simp at hcap; omega
    unfold maxLen at hmx
    clear hread hsl hb2 hcap hT hTT
    refine (pick_at at_ (8 * m) _ hat1 hat2 (by omega) (by omega)).mono ?_
    rintro e w3 ⟨⟨k, hk, rfl⟩, rfl⟩
    have c1 : 0 + m ≤ maxLen := by unfold maxLen; omega
    have c2 : (0 + m) * 1 ≤ 140737488355328 := by omega
    have hone : ∀ u ∈ T.map Kit.B, u.oneCell' = true := by intro u hu; obtain ⟨x, _, rfl⟩ := List.mem_map.1 hu; rfl
    go_wp2_with (at_builtin; refine Kit.wpList_append_any rfl (.const (.slice none 0 0)) (.tmp 29) 32 rfl w2.heap.size 5 i0 (.int .u8 0) 1 1 Try.underlying32 Hi.out Hz0.out Hz1.out Hz2.out rfl (by decide) (.slice none 0 0) 0 [] rfl (World.ownsRow_nil _ _ _ _) _ m (T.map Kit.B) rfl HS.out hone c1 c2 (Nat.le_refl _) ?_; intro v6 w6 hown6 hg6; simp only [Nat.zero_add, List.nil_append] at hown6; obtain ⟨g, cap6, rfl, hgb6, hcap6, hmx6⟩ := Kit.own_pos hown6 hm0; have Hown6 := Lib.hid hown6; clear hown6; have Hg6 : Hid (Below w2.heap.size w2 w6) := (Below.refl _ _).grown hg6 (Nat.le_refl _) (fun j e => by cases e); clear hg6; unfold maxLen at hmx6)
    go_loopw [11, 12] (fun sm iv wr => ∃ i : Nat, i ≤ 32 ∧ k + i ≤ 8 * m ∧ iv = .int .i64 i ∧ sm = .bool (any t' i) ∧ wr.ownsRow w2.heap.size 5 1 (.slice (some ⟨g, 0, none⟩) m cap6) m ((st T t' k i).map Kit.B) ∧ Below w2.heap.size w2 wr) (fun _ iv _ => 32 - (intOf iv).toNat)
    case atStart => exact ⟨0, by omega, by omega, rfl, rfl, Hown6.out, Hg6.out⟩
    case round =>
      obtain ⟨i, hi32, hik, rfl, rfl, hown, hbr⟩ := hrel
      have Hown := Lib.hid hown
      have Hbr := Lib.hid hbr
      clear hown hbr
      by_cases hgo : i < 32 ∧ k + i < 8 * m
      · obtain ⟨h32, h8⟩ := hgo
        have htest := bit_test t' i
        have htest' := Lib.hid htest
        have hq : (k + i) / 8 < m := by omega
        have hst := st_len T t' k i
        have Hst := Lib.hid hst
        clear hst htest
        cases hbit : t'.getLsbD i with
        | false =>
          have htest := htest'.out
          rw [hbit] at htest
          have Hbit := Lib.hid hbit
          clear hbit
          go_wp2
          go_roundw
          case rel => exact ⟨i + 1, by omega, by omega, by go_num, by simp [any, Hbit.out], by simp only [st, Hbit.out]; exact Hown.out, Hbr.out⟩
          case measure => simp [intOf]; omega
        | true =>
          have htest := htest'.out
          rw [hbit] at htest
          have Hbit := Lib.hid hbit
          clear hbit
          have hql : (k + i) / 8 < (st T t' k i).length := by rw [Hst.out, HT.out]; exact hq
          have hcl := Hown.out.cellAt ((k + i) / 8) (by omega)
          have hfr := Hown.out.frozenAt ((k + i) / 8)
          obtain ⟨y, hy⟩ : ∃ y, (st T t' k i).getD ((k + i) / 8) 0 = y := ⟨_, rfl⟩
          have hg : ((st T t' k i).map Kit.B)[(k + i) / 8]? = some (.int .u8 (y.toNat : Int)) := by rw [← hy, List.getD_eq_getElem?_getD, List.getElem?_eq_getElem hql]; simp [hql, Kit.B]
          rw [hg] at hcl
          have Hy := Lib.hid hy
          clear hg hy hql
          obtain ⟨v, hv⟩ : ∃ v : Nat, (y ^^^ UInt8.ofNat (128 >>> ((k + i) % 8))).toNat = v := ⟨_, rfl⟩
          have hx := flip_val y ((k + i) % 8) (by omega)
          rw [hv] at hx
          have Hv := Lib.hid hv
          clear hv
          go_wp2_with fail
          refine Sched.region_at [0,1,2,3,4,5,6,7,8,9,10,12,13,14,15,16] [11,17,18,19] (by kernel_rfl) (by kernel_rfl) ?_
          simp only [Sched.pick_cons, Sched.pick_nil, Sched.at_succ, Sched.at_zero]
          repeat (first | go_big_quiet_skip | (go_big_quiet_want; go_big_quiet_op; go_big_quiet_on))
          refine wpQuiet_nil ?_
          go_wp2
          have hst2 : ((st T t' k i).map Kit.B).set ((k + i) / 8) (.int .u8 (v : Int)) = (st T t' k (i + 1)).map Kit.B := by
            simp only [st, Hbit.out, if_true]
            rw [List.map_set, Hy.out, Kit.B, Hv.out]
          have Hown2 : Hid ((wr.setCell ⟨g, (k + i) / 8, none⟩ (.int .u8 (v : Int))).drew.ownsRow w2.heap.size 5 1 (.slice (some ⟨g, 0, none⟩) m cap6) m ((st T t' k (i + 1)).map Kit.B)) := by
            rw [← hst2]; exact (Hown.out.stored ((k + i) / 8) (.int .u8 (v : Int))).1.drew
          have Hbr2 : Hid (Below w2.heap.size w2 (wr.setCell ⟨g, (k + i) / 8, none⟩ (.int .u8 (v : Int))).drew) := (Hbr.out.setCell hgb6 _).drew
          clear hcl hfr hx htest hst2
          refine NoPanic.normal ?_
          go_wp2
          go_roundw
          case rel => exact ⟨i + 1, by omega, by omega, by go_num, by simp [any, Hbit.out], Hown2.out, Hbr2.out⟩
          case measure => simp [intOf]; omega
      · have hS6 := Kit.Sl.own Hown.out
        have HS6 := Lib.hid hS6
        have HS7 : Hid (Kit.Sl wr 1 (.slice (some ⟨b, 0, none⟩) m cap) m (T.map Kit.B)) := HS.out.below Hbr.out
        have hfin := fin T t' k i hi32 (by rw [HT.out]; exact hik)
        have HF := Lib.hid hfin
        have hlen : (st T t' k i).length ≤ maxLen := by rw [st_len, HT.out]; unfold maxLen; omega
        have hlen2 : T.length ≤ maxLen := by rw [HT.out]; unfold maxLen; omega
        have HL := Lib.hid hlen
        have HL2 := Lib.hid hlen2
        clear hS6 hfin hlen hlen2 hone
        by_cases h32 : i < 32
        all_goals
          go_wp2_with fail
          refine Kit.region_in (by kernel_rfl) (by kernel_rfl) ?_
          have hfin := HF.out
          repeat (first | go_big_quiet_skip | (go_big_quiet_want; go_big_quiet_op; first | go_big_quiet_on | (refine ⟨_, fun _ _ => rfl, ?_⟩; go_big_quiet_on)))
          go_big_quiet_want
          refine Kit.quiet_to_string 32 9 5 (.tmp 70) rfl Try.underlying32 Try.underlying5 Try.underlying9 _ m T rfl (fun w hw => hw.sl HS7.out) ?_
          simp only [Act.put, List.setIfInBounds_toArray, List.set_cons_succ, List.set_cons_zero]
          go_big_quiet_on
          go_big_quiet_want
          go_big_quiet_op
          refine ⟨_, (fun w hw => (sum_eq _ T w (by simp) HL2.out).mono fun e w' ⟨he, hb⟩ => ⟨he, hw.go hb⟩), ?_⟩
          go_big_quiet_on
          repeat (first | go_big_quiet_skip | (go_big_quiet_want; go_big_quiet_op; first | go_big_quiet_on | (refine ⟨_, fun _ _ => rfl, ?_⟩; go_big_quiet_on)))
          go_big_quiet_want
          refine Kit.quiet_to_string 32 9 5 (.tmp 73) rfl Try.underlying32 Try.underlying5 Try.underlying9 _ m (st T t' k i) rfl (fun w hw => hw.sl HS6.out) ?_
          simp only [Act.put, List.setIfInBounds_toArray, List.set_cons_succ, List.set_cons_zero]
          go_big_quiet_on
          go_big_quiet_want
          go_big_quiet_op
          refine ⟨_, (fun w hw => (sum_eq _ (st T t' k i) w (by simp) HL.out).mono fun e w' ⟨he, hb⟩ => ⟨he, hw.go hb⟩), ?_⟩
          go_big_quiet_on
          repeat (first | go_big_quiet_skip | (go_big_quiet_want; go_big_quiet_op; first | go_big_quiet_on | (refine ⟨_, fun _ _ => rfl, ?_⟩; go_big_quiet_on)))
          refine wpQuiet_nil ?_
          intro w9 hw9
          go_wp2
          go_ret
          exact ⟨rfl, HB2.out.trans ((Hbr.out.trans (Below.mono hw9 Hbr.out.size)).mono HB2.out.size)⟩
theorem whole {w : World} (s : ByteArray) (hs : s.size ≤ maxLen) (at_ : Int) (wat : (Lit.int .i64 at_).wf = true) (t : Int) (wt : (Lit.int .u32 t).wf = true) :
    Calls Try.prog 5 #[.string s, .int .i64 at_, .int .u32 t] w fun e w' => e = .returned (.bool true) ∧ Below w.heap.size w w' := by
  obtain ⟨t', ht⟩ := wf_u t wt
  exact walk s hs at_ wat t t' ht
end CrcBurst
end Go.Proofs.Ytlfbkkfcbpallaa
