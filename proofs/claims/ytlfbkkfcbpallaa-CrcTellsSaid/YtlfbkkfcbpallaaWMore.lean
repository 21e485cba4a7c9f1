/-
  THE WALK of CrcMore: it returns true, whatever it is given.
-/
import Derived.Test.YtlfbkkfcbpallaaFold
namespace Go.Proofs.Ytlfbkkfcbpallaa
open Go.RowKit
namespace CrcMore
open Crc
theorem sl4 (w : World) (b : Nat) (x : Fin 4 → UInt8) (t : TypeId) (h : w.heap[b]? = some (.cells #[Kit.B (x 0), Kit.B (x 1), Kit.B (x 2), Kit.B (x 3)] t (0, 0))) :
    Kit.Sl w 1 (.slice (some ⟨b, 0, none⟩) 4 4) 4 ([x 0, x 1, x 2, x 3].map Kit.B) := by
  refine ⟨rfl, .inr ⟨_, 4, rfl, Nat.le_refl _, by unfold maxLen; omega, fun j u hj => ⟨rfl, ?_⟩⟩⟩
  simp only [World.cell?, h, Nat.zero_add]
  simpa using hj
theorem size_cat (a : ByteArray) (l : List UInt8) : (a ++ ⟨l.toArray⟩ : ByteArray).data.toList = a.data.toList ++ l := by simp
theorem more_append (c : BitVec 32) (a b : List UInt8) : more c (a ++ b) = more (more c a) b := by
  simp [more, takes, List.foldl_append]
theorem eq4 (a0 a1 a2 a3 b0 b1 b2 b3 : Int) (w : World) : (Op.equalIn 10000 31 (.agg #[.int .u8 a0, .int .u8 a1, .int .u8 a2, .int .u8 a3]) (.agg #[.int .u8 b0, .int .u8 b1, .int .u8 b2, .int .u8 b3])).run Try.prog w = .ok (a0 == b0 && a1 == b1 && a2 == b2 && a3 == b3) w := by
  have hs : ∀ w, (sizeOf 5).run Try.prog w = .ok 1 w := fun _ => by kernel_rfl
  have hi : ∀ a b : Int, (Op.equalIn 9999 5 (.int .u8 a) (.int .u8 b)).run Try.prog w = .ok (a == b) w := fun (a b : Int) => run_equalIn_int (P := Try.prog) w 9998 5 .u8 .u8 a b Try.underlying5
  rw [show (10000 : Nat) = 9999 + 1 from rfl]
  unfold Op.equalIn
  simp [run_underlying Try.underlying31, hs, Sem.run_bind, Std.Legacy.Range.forIn_eq_forIn_range', List.range', part]
  simp only [hi, Result.andThen_ok]
  cases a0 == b0 <;> cases a1 == b1 <;> cases a2 == b2 <;> cases a3 == b3 <;> simp [Result.andThen]
theorem last4 (l : List UInt8) (x y : Fin 4 → UInt8) :
    (((more 0#32 (l ++ [x 0, x 1, x 2, x 3])).toNat : Int) == ((more 0#32 (l ++ [y 0, y 1, y 2, y 3])).toNat : Int)) =
    (((x 0).toNat : Int) == ((y 0).toNat : Int) && ((x 1).toNat : Int) == ((y 1).toNat : Int) && ((x 2).toNat : Int) == ((y 2).toNat : Int) && ((x 3).toNat : Int) == ((y 3).toNat : Int)) := by
  rw [Bool.eq_iff_iff]
  simp only [Bool.and_eq_true, beq_iff_eq]
  constructor
  · intro h
    have h1 : more 0#32 (l ++ [x 0, x 1, x 2, x 3]) = more 0#32 (l ++ [y 0, y 1, y 2, y 3]) := BitVec.eq_of_toNat_eq (by omega)
    rw [more_append, more_append] at h1
    have h2 := congrArg (~~~ ·) h1
    simp only [more, BitVec.not_not] at h2
    rw [takes4, takes4] at h2
    have h3 := steps_inj 32 h2
    have h4 := congrArg (takes (~~~ 0#32) l ^^^ ·) h3
    simp only [BitVec.not_not, xor_self_left] at h4
    obtain ⟨e0, e1, e2, e3⟩ := word_inj h4
    rw [e0, e1, e2, e3]
    exact ⟨⟨⟨rfl, rfl⟩, rfl⟩, rfl⟩
  · rintro ⟨⟨⟨h0, h1⟩, h2⟩, h3⟩
    have e : ∀ i, ((x i).toNat : Int) = ((y i).toNat : Int) → x i = y i := fun i h => UInt8.toNat_inj.1 (by omega)
    rw [e 0 h0, e 1 h1, e 2 h2, e 3 h3]
theorem info4 : (Try.prog.info? 31).map (·.size) = some 4 := by kernel_rfl
theorem more_inj (l : List UInt8) : ∀ c d : BitVec 32, takes c l = takes d l → c = d := by
  induction l with
  | nil => intro c d h; exact h
  | cons b l ih =>
    intro c d h
    have h1 : take c b.toBitVec = take d b.toBitVec := ih _ _ h
    have h2 := steps_inj 8 h1
    have := congrArg (· ^^^ (b.toBitVec.setWidth 32 <<< 24)) h2
    simpa [BitVec.xor_assoc] using this
theorem beq_u (a b : BitVec 32) : ((a.toNat : Int) == (b.toNat : Int)) = (a == b) := by
  rw [Bool.eq_iff_iff]
  simp only [beq_iff_eq]
  exact ⟨fun h => BitVec.eq_of_toNat_eq (by omega), fun h => by rw [h]⟩
theorem more_eq (c d : BitVec 32) (l : List UInt8) : (((more c l).toNat : Int) == ((more d l).toNat : Int)) = ((c.toNat : Int) == (d.toNat : Int)) := by
  rw [beq_u, beq_u, Bool.eq_iff_iff]
  simp only [beq_iff_eq]
  constructor
  · intro h
    have h1 : takes (~~~ c) l = takes (~~~ d) l := by simpa [more] using congrArg (~~~ ·) h
    simpa using congrArg (~~~ ·) (more_inj l _ _ h1)
  · intro h; rw [h]
set_option maxRecDepth 100000 in
set_option maxHeartbeats 1000000 in
theorem walk (s t : ByteArray) (c d : Int) (x y : Fin 4 → UInt8) (w : World) (hs : s.size ≤ maxLen) (ht : t.size ≤ maxLen) (C D : BitVec 32) (hc : c = (C.toNat : Int)) (hd : d = (D.toNat : Int)) :
    Calls Try.prog 4 #[.string s, .string t, .int .u32 c, .int .u32 d, .agg #[.int .u8 (x 0).toNat, .int .u8 (x 1).toNat, .int .u8 (x 2).toNat, .int .u8 (x 3).toNat], .agg #[.int .u8 (y 0).toNat, .int .u8 (y 1).toNat, .int .u8 (y 2).toNat, .int .u8 (y 3).toNat]] w fun e w' => e = .returned (.bool true) ∧ Below w.heap.size w w' := by
  subst hc hd
  unfold maxLen at hs ht
  go_enter Try.func4, Try.ntmps4
  go_wp2_with fail
  have hA : Hid (((w.alloc (.cells #[Kit.B (x 0), Kit.B (x 1), Kit.B (x 2), Kit.B (x 3)] 31)).alloc (.cells #[Kit.B (y 0), Kit.B (y 1), Kit.B (y 2), Kit.B (y 3)] 31)).heap[w.heap.size]? = some (.cells #[Kit.B (x 0), Kit.B (x 1), Kit.B (x 2), Kit.B (x 3)] 31 (0, 0))) := heap_alloc2_old _ _ _
  have hB : Hid (((w.alloc (.cells #[Kit.B (x 0), Kit.B (x 1), Kit.B (x 2), Kit.B (x 3)] 31)).alloc (.cells #[Kit.B (y 0), Kit.B (y 1), Kit.B (y 2), Kit.B (y 3)] 31)).heap[w.heap.size + 1]? = some (.cells #[Kit.B (y 0), Kit.B (y 1), Kit.B (y 2), Kit.B (y 3)] 31 (0, 0))) := heap_alloc2_new _ _ _
  have hW : Hid (Below w.heap.size w ((w.alloc (.cells #[Kit.B (x 0), Kit.B (x 1), Kit.B (x 2), Kit.B (x 3)] 31)).alloc (.cells #[Kit.B (y 0), Kit.B (y 1), Kit.B (y 2), Kit.B (y 3)] 31))) := (((Below.refl _ _).alloc (Nat.le_refl _) _).alloc (Kit.le_alloc (Nat.le_refl _) _) _)
  unfold Kit.B at hA hB hW
  generalize (w.alloc (.cells #[.int .u8 (x 0).toNat, .int .u8 (x 1).toNat, .int .u8 (x 2).toNat, .int .u8 (x 3).toNat] 31)).alloc (.cells #[.int .u8 (y 0).toNat, .int .u8 (y 1).toNat, .int .u8 (y 2).toNat, .int .u8 (y 3).toNat] 31) = W0 at hA hB hW ⊢
  refine (awake_at _).mono ?_
  rintro e w1 ⟨rfl, hb1⟩
  have HX : Hid (Kit.Sl w1 1 (.slice (some ⟨w.heap.size, 0, none⟩) 4 4) 4 ([x 0, x 1, x 2, x 3].map Kit.B)) := (sl4 _ _ x _ hA.out).below hb1
  have HY : Hid (Kit.Sl w1 1 (.slice (some ⟨w.heap.size + 1, 0, none⟩) 4 4) 4 ([y 0, y 1, y 2, y 3].map Kit.B)) := (sl4 _ _ y _ hB.out).below hb1
  have HB1 : Hid (Below W0.heap.size W0 w1) := hb1
  clear hb1
  go_wp2_with (first
    | (refine Kit.wpList_min rfl (.tmp 21) (.const (.int .i64 60)) 3 rfl s.size 60 rfl rfl ?_; intro m hm1 hm2 hm3)
    | (refine Kit.wpList_min rfl (.tmp 26) (.const (.int .i64 60)) 3 rfl t.size 60 rfl rfl ?_; intro k hk1 hk2 hk3)
    | (refine Kit.wpList_to_string rfl 32 9 5 (.tmp 30) rfl Try.underlying32 Try.underlying5 Try.underlying9 _ 4 [x 0, x 1, x 2, x 3] rfl HX.out ?_))
  have ha : (s.extract 0 m).size ≤ 60 := by simp; omega
  have hb : (t.extract 0 k).size ≤ 60 := by simp; omega
  generalize s.extract 0 m = a at ha ⊢
  generalize t.extract 0 k = b at hb ⊢
  have hax : ∀ l : List UInt8, (a ++ ⟨l.toArray⟩ : ByteArray).size ≤ 60 + l.length := by
    intro l; rw [ByteArray.size_append]
    have : (⟨l.toArray⟩ : ByteArray).size = l.length := by simp [ByteArray.size]
    omega
  have HAX := Lib.hid hax
  clear hax
  refine (sum_at _ _ (by have := HAX.out [x 0, x 1, x 2, x 3]; unfold maxLen; simp at this ⊢; omega)).mono ?_
  rintro e w2 ⟨rfl, hb2⟩
  have HY2 : Hid (Kit.Sl w2 1 (.slice (some ⟨w.heap.size + 1, 0, none⟩) 4 4) 4 ([y 0, y 1, y 2, y 3].map Kit.B)) := HY.out.below hb2
  have HB2 : Hid (Below W0.heap.size W0 w2) := HB1.out.trans (hb2.mono HB1.out.size)
  clear hb2
  go_wp2_with (refine Kit.wpList_to_string rfl 32 9 5 (.tmp 35) rfl Try.underlying32 Try.underlying5 Try.underlying9 _ 4 [y 0, y 1, y 2, y 3] rfl HY2.out ?_)
  refine (sum_at _ _ (by have := HAX.out [y 0, y 1, y 2, y 3]; unfold maxLen; simp at this ⊢; omega)).mono ?_
  rintro e w3 ⟨rfl, hb3⟩
  have HB3 : Hid (Below W0.heap.size W0 w3) := HB2.out.trans (hb3.mono HB2.out.size)
  clear hb3
  go_wp2_with fail
  refine (sum_at _ _ (by rw [ByteArray.size_append]; unfold maxLen; omega)).mono ?_
  rintro e w4 ⟨rfl, hb4⟩
  have HB4 : Hid (Below W0.heap.size W0 w4) := HB3.out.trans (hb4.mono HB3.out.size)
  clear hb4
  go_wp2_with fail
  refine (sum_at a _ (by unfold maxLen; omega)).mono ?_
  rintro e w5 ⟨rfl, hb5⟩
  have HB5 : Hid (Below W0.heap.size W0 w5) := HB4.out.trans (hb5.mono HB4.out.size)
  clear hb5
  go_wp2_with fail
  refine (more_at _ (more 0#32 a.data.toList) b _ rfl (by unfold maxLen; omega)).mono ?_
  rw [← more_append]
  rintro e w6 ⟨rfl, hb6⟩
  have HB6 : Hid (Below W0.heap.size W0 w6) := HB5.out.trans (hb6.mono HB5.out.size)
  clear hb6
  go_wp2_with fail
  refine (more_at _ C a _ rfl (by unfold maxLen; omega)).mono ?_
  rintro e w7 ⟨rfl, hb7⟩
  have HB7 : Hid (Below W0.heap.size W0 w7) := HB6.out.trans (hb7.mono HB6.out.size)
  clear hb7
  go_wp2_with fail
  refine (more_at _ D a _ rfl (by unfold maxLen; omega)).mono ?_
  rintro e w8 ⟨rfl, hb8⟩
  have HB8 : Hid (Below W0.heap.size W0 w8) := HB7.out.trans (hb8.mono HB7.out.size)
  clear hb8
  have szA : w.heap.size < W0.heap.size := (Array.getElem?_eq_some_iff.1 hA.out).1
  have szB : w.heap.size + 1 < W0.heap.size := (Array.getElem?_eq_some_iff.1 hB.out).1
  have GA : Hid (w8.heap[w.heap.size]? = some (.cells #[.int .u8 (x 0).toNat, .int .u8 (x 1).toNat, .int .u8 (x 2).toNat, .int .u8 (x 3).toNat] 31 (0, 0))) := by rw [Hid, HB8.out.block _ szA]; exact hA.out
  have GB : Hid (w8.heap[w.heap.size + 1]? = some (.cells #[.int .u8 (y 0).toNat, .int .u8 (y 1).toNat, .int .u8 (y 2).toNat, .int .u8 (y 3).toNat] 31 (0, 0))) := by rw [Hid, HB8.out.block _ szB]; exact hB.out
  have e2 := more_eq C D a.data.toList
  have e3 := last4 a.data.toList x y
  have e4 := eq4 (x 0).toNat (x 1).toNat (x 2).toNat (x 3).toNat (y 0).toNat (y 1).toNat (y 2).toNat (y 3).toNat
  go_wp2_with (first
    | (refine Kit.wpList_want rfl ?_; refine wpList_load_row rfl 31 (.tmp 10) rfl w.heap.size rfl 31 _ (0, 0) _ GA.out Try.underlying31 rfl info4 ?_)
    | (refine Kit.wpList_want rfl ?_; refine wpList_load_row rfl 31 (.tmp 11) rfl (w.heap.size + 1) rfl 31 _ (0, 0) _ GB.out Try.underlying31 rfl info4 ?_))
  go_ret
  exact ⟨rfl, hW.out.trans (HB8.out.mono hW.out.size)⟩
theorem wf_u (x : Int) (h : (Lit.int .u32 x).wf = true) : ∃ c : BitVec 32, x = (c.toNat : Int) := by
  simp [Lit.wf, IntKind.min, IntKind.max, IntKind.signed, IntKind.bits] at h
  exact ⟨BitVec.ofInt 32 x, by rw [BitVec.toNat_ofInt]; omega⟩
theorem wf_b (x : Int) (h : (Lit.int .u8 x).wf = true) : ∃ c : UInt8, x = (c.toNat : Int) := by
  simp [Lit.wf, IntKind.min, IntKind.max, IntKind.signed, IntKind.bits] at h
  refine ⟨UInt8.ofNat x.toNat, ?_⟩
  rw [UInt8.toNat_ofNat']
  omega
theorem four (v : Value) (z : List Int) (l : z.length = 4) (e : v = .agg (z.map (Value.int .u8)).toArray) (hz : ∀ y ∈ z, (Lit.int .u8 y).wf = true) :
    ∃ x : Fin 4 → UInt8, v = .agg #[.int .u8 (x 0).toNat, .int .u8 (x 1).toNat, .int .u8 (x 2).toNat, .int .u8 (x 3).toNat] := by
  match z, l with
  | [a, b, c, d], _ =>
    obtain ⟨a', ha⟩ := wf_b a (hz a (by simp))
    obtain ⟨b', hb⟩ := wf_b b (hz b (by simp))
    obtain ⟨c', hc⟩ := wf_b c (hz c (by simp))
    obtain ⟨d', hd⟩ := wf_b d (hz d (by simp))
    refine ⟨fun i => match i with | 0 => a' | 1 => b' | 2 => c' | 3 => d', ?_⟩
    rw [e, ha, hb, hc, hd]
    rfl
theorem whole {w : World} (s : ByteArray) (hs : s.size ≤ maxLen) (t : ByteArray) (ht : t.size ≤ maxLen) (c : Int) (wc : (Lit.int .u32 c).wf = true) (d : Int) (wd : (Lit.int .u32 d).wf = true)
    (v : Value) (z : List Int) (l : z.length = 4) (e : v = .agg (z.map (Value.int .u8)).toArray) (hz : ∀ y ∈ z, (Lit.int .u8 y).wf = true)
    (v' : Value) (z' : List Int) (l' : z'.length = 4) (e' : v' = .agg (z'.map (Value.int .u8)).toArray) (hz' : ∀ y ∈ z', (Lit.int .u8 y).wf = true) :
    Calls Try.prog 4 #[.string s, .string t, .int .u32 c, .int .u32 d, v, v'] w fun e w' => e = .returned (.bool true) ∧ Below w.heap.size w w' := by
  obtain ⟨C, hC⟩ := wf_u c wc
  obtain ⟨D, hD⟩ := wf_u d wd
  obtain ⟨x, rfl⟩ := four v z l e hz
  obtain ⟨y, rfl⟩ := four v' z' l' e' hz'
  exact walk s t c d x y w hs ht C D hC hD
end CrcMore
end Go.Proofs.Ytlfbkkfcbpallaa
