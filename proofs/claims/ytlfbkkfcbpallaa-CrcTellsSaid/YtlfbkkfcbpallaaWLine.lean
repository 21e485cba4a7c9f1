/-
  THE WALK of CrcLine: it returns true, whatever it is given.
-/
import Derived.Test.YtlfbkkfcbpallaaWMore
import Derived.Test.YtlfbkkfcbpallaaSched
namespace Go.Proofs.Ytlfbkkfcbpallaa
open Go.RowKit
namespace CrcLine
open Crc CrcMore
theorem info_u8 : (Try.prog.info? 5).map (fun i => (i.zero, i.size, i.bytes)) = some (some (.int .u8 0), 1, 1) := by kernel_rfl
theorem sum_eq (s : ByteArray) (l : List UInt8) (w : World) (hl : s.data.toList = l) (hs : l.length ≤ maxLen) :
    Calls Try.prog 10 #[.string s] w fun e w' => e = .returned (.int .u32 ((more 0#32 l).toNat : Int)) ∧ Below w.heap.size w w' := by
  subst hl; exact sum_at s w (by simpa using hs)
def xs (a b c : ByteArray) (k : Nat) : List UInt8 := (List.range k).map fun i => a.data.toList.getD i 0 ^^^ b.data.toList.getD i 0 ^^^ c.data.toList.getD i 0
theorem xs_len (a b c : ByteArray) (k : Nat) : (xs a b c k).length = k := by simp [xs]
theorem xs_succ (a b c : ByteArray) (k : Nat) (ha : k < a.size) (hb : k < b.size) (hc : k < c.size) : xs a b c (k + 1) = xs a b c k ++ [a[k] ^^^ b[k] ^^^ c[k]] := by
  have e : ∀ (s : ByteArray) (h : k < s.size), s.data.toList.getD k 0 = s[k] := by
    intro s h
    rw [List.getD_eq_getElem?_getD, List.getElem?_eq_getElem (by simpa using h)]
    rfl
  simp only [xs, List.range_succ, List.map_append, List.map_cons, List.map_nil, e a ha, e b hb, e c hc]
theorem xor_b (x y : UInt8) : bits BinOp.xor IntKind.u8 (x.toNat : Int) (y.toNat : Int) = ((x ^^^ y).toNat : Int) := by
  rw [u8_xor_nat _ _ (by have := x.toNat_lt; omega) (by have := y.toNat_lt; omega), UInt8.toNat_xor]
theorem sh_xor (x y : UInt8) (k : Nat) : sh (x ^^^ y) k = sh x k ^^^ sh y k := by
  unfold sh
  rw [UInt8.toBitVec_xor, BitVec.setWidth_xor, BitVec.shiftLeft_xor_distrib]
theorem take_xor3 (x y z : BitVec 32) (p q r : UInt8) : take (x ^^^ y ^^^ z) (p ^^^ q ^^^ r).toBitVec = take x p.toBitVec ^^^ take y q.toBitVec ^^^ take z r.toBitVec := by
  have h : ∀ (m : BitVec 32) (x : UInt8), take m x.toBitVec = steps 8 (m ^^^ sh x 24) := fun _ _ => rfl
  rw [h, h, h, h, sh_xor, sh_xor, ← steps_xor, ← steps_xor]
  refine congrArg (steps 8) ?_
  generalize sh p 24 = p'
  generalize sh q 24 = q'
  generalize sh r 24 = r'
  apply BitVec.eq_of_getLsbD_eq
  intro i hi
  simp only [BitVec.getLsbD_xor]
  cases x.getLsbD i <;> cases y.getLsbD i <;> cases z.getLsbD i <;> cases p'.getLsbD i <;> cases q'.getLsbD i <;> cases r'.getLsbD i <;> rfl
theorem takes_xor3 (a b c : ByteArray) (k : Nat) (ha : k ≤ a.size) (hb : k ≤ b.size) (hc : k ≤ c.size) :
    takes (~~~ 0#32) (xs a b c k) = takes (~~~ 0#32) (a.data.toList.take k) ^^^ takes (~~~ 0#32) (b.data.toList.take k) ^^^ takes (~~~ 0#32) (c.data.toList.take k) := by
  induction k with
  | zero => simp [xs, takes]
  | succ k ih =>
    rw [xs_succ a b c k (by omega) (by omega) (by omega), takes_snoc, ih (by omega) (by omega) (by omega), take_xor3, Crc.take_snoc a k (by omega), Crc.take_snoc b k (by omega), Crc.take_snoc c k (by omega), takes_snoc, takes_snoc, takes_snoc]
theorem more_xor3 (a b c : ByteArray) (k : Nat) (ha : k ≤ a.size) (hb : k ≤ b.size) (hc : k ≤ c.size) :
    more 0#32 (xs a b c k) = more 0#32 (a.data.toList.take k) ^^^ more 0#32 (b.data.toList.take k) ^^^ more 0#32 (c.data.toList.take k) := by
  unfold more
  rw [takes_xor3 a b c k ha hb hc]
  generalize takes (~~~ 0#32) (a.data.toList.take k) = x
  generalize takes (~~~ 0#32) (b.data.toList.take k) = y
  generalize takes (~~~ 0#32) (c.data.toList.take k) = z
  apply BitVec.eq_of_getLsbD_eq
  intro i hi
  simp only [BitVec.getLsbD_xor, BitVec.getLsbD_not, hi, decide_true, Bool.true_and]
  cases x.getLsbD i <;> cases y.getLsbD i <;> cases z.getLsbD i <;> rfl
set_option maxRecDepth 100000 in
set_option maxHeartbeats 1000000 in
theorem walk {w : World} (a : ByteArray) (ha : a.size ≤ maxLen) (b : ByteArray) (hb : b.size ≤ maxLen) (c : ByteArray) (hc : c.size ≤ maxLen) :
    Calls Try.prog 6 #[.string a, .string b, .string c] w fun e w' => e = .returned (.bool true) ∧ Below w.heap.size w w' := by
  unfold maxLen at ha hb hc
  obtain ⟨i0, hi, hz0, hz1, hz2⟩ := info_parts info_u8
  have Hi := Lib.hid hi
  have Hz0 := Lib.hid hz0
  have Hz1 := Lib.hid hz1
  have Hz2 := Lib.hid hz2
  clear hi hz0 hz1 hz2
  obtain ⟨n, hna, hnb, hnc, hn60, hmin⟩ : ∃ n : Nat, n ≤ a.size ∧ n ≤ b.size ∧ n ≤ c.size ∧ n ≤ 60 ∧ ∀ w, (Builtin.min_ #[3, 3, 3, 3] 3 #[.int .i64 (a.size : Int), .int .i64 (b.size : Int), .int .i64 (c.size : Int), .int .i64 60]).run Try.prog w = .ok (.int .i64 (n : Int)) w := by
    refine ⟨min (min (min a.size b.size) c.size) 60, by omega, by omega, by omega, by omega, fun w => ?_⟩
    simp [Builtin.min_, Builtin.min2]
    split <;> split <;> split <;> omega
  go_enter Try.func6, Try.ntmps6
  go_wp2_with fail
  refine (awake_at _).mono ?_
  rintro e w1 ⟨rfl, hb1⟩
  have HB1 := Lib.hid hb1
  clear hb1
  go_wp2_with fail
  go_loopw [9, 10] (fun v i wr => ∃ k : Nat, k ≤ n ∧ i = .int .i64 k ∧ wr.ownsRow w1.heap.size 5 1 v k ((xs a b c k).map Kit.B) ∧ Below w1.heap.size w1 wr) (fun _ i _ => n - (intOf i).toNat)
  case atStart => exact ⟨0, by omega, rfl, World.ownsRow_nil _ _ _ _, Below.refl _ _⟩
  case round =>
    obtain ⟨k, hk, rfl, hown, hbr⟩ := hrel
    have Hown := Lib.hid hown
    have Hbr := Lib.hid hbr
    clear hown hbr
    by_cases hlt : k < n
    · have hka : k < a.size := by omega
      have hkb : k < b.size := by omega
      have hkc : k < c.size := by omega
      go_wp2_with fail
      obtain ⟨u, hu⟩ : ∃ u : Nat, (a[k] ^^^ b[k]).toNat = u := ⟨_, rfl⟩
      obtain ⟨v, hv⟩ : ∃ v : Nat, (a[k] ^^^ b[k] ^^^ c[k]).toNat = v := ⟨_, rfl⟩
      have hx1 := xor_b a[k] b[k]
      have hx2 := xor_b (a[k] ^^^ b[k]) c[k]
      rw [hu] at hx1 hx2
      rw [hv] at hx2
      have Hv := Lib.hid hv
      clear hu hv
      have c1 : k + 1 ≤ maxLen := by unfold maxLen; omega
      have c2 : (k + 1) * 1 ≤ 140737488355328 := by omega
      have c5 : 1 ≤ maxLen := by unfold maxLen; omega
      have hone : ∀ u ∈ [Value.int .u8 (v : Int)], u.oneCell' = true := by simp [Value.oneCell']
      refine Sched.region_n 12 (by kernel_rfl) (by kernel_rfl) ?_
      simp only [List.take_succ_cons, List.take_zero, List.drop_succ_cons, List.drop_zero]
      repeat (first | go_big_quiet_skip | (go_big_quiet_want; go_big_quiet_op; go_big_quiet_on))
      refine wpQuiet_nil ?_
      go_wp2_with (at_builtin; refine Kit.wpList_append_any rfl (.tmp 24) (.tmp 36) 32 rfl w1.heap.size 5 i0 (.int .u8 0) 1 1 Try.underlying32 Hi.out Hz0.out Hz1.out Hz2.out rfl (by decide) u9 k _ rfl (Hown.out.drew.alloc _) _ 1 [.int .u8 (v : Int)] rfl (Kit.Sl.lit _ #[.int .u8 (v : Int)] 5 1 1 rfl c5) hone c1 c2 (Kit.le_alloc Hbr.out.size _) ?_; intro v3 w3 hown3 hg3)
      have hx := xs_succ a b c k hka hkb hkc
      have Hown3 : Hid (w3.ownsRow w1.heap.size 5 1 v3 (k + 1) ((xs a b c (k + 1)).map Kit.B)) := by
        rw [hx, List.map_append, List.map_cons, List.map_nil, Kit.B, Hv.out]; exact hown3
      have Hb3 : Hid (Below w1.heap.size w1 w3) := ((Hbr.out.alloc Hbr.out.size _).drew.grown hg3 (Kit.le_alloc Hbr.out.size _) (fun j e => (Hown.out.lt j e).1))
      clear hown3 hg3 hx1 hx2 hx hone
      refine NoPanic.normal ?_
      go_wp2
      go_roundw
      case rel => exact ⟨k + 1, by omega, by go_num, Hown3.out, Hb3.out⟩
      case measure => simp [intOf]; omega
    · obtain rfl : k = n := by omega
      have hsl := Kit.Sl.own Hown.out
      have HS := Lib.hid hsl
      clear hsl
      go_wp2_with fail
      have m1 := xor_u (more 0#32 (a.data.toList.take k)) (more 0#32 (b.data.toList.take k))
      have m2 := xor_u (more 0#32 (a.data.toList.take k) ^^^ more 0#32 (b.data.toList.take k)) (more 0#32 (c.data.toList.take k))
      rw [← more_xor3 a b c k hna hnb hnc] at m2
      obtain ⟨p, hp⟩ : ∃ p : Nat, (more 0#32 (a.data.toList.take k) ^^^ more 0#32 (b.data.toList.take k)).toNat = p := ⟨_, rfl⟩
      rw [hp] at m1 m2
      clear hp
      refine Kit.region_in (by kernel_rfl) (by kernel_rfl) ?_
      repeat (first | go_big_quiet_skip | (go_big_quiet_want; go_big_quiet_op; first | go_big_quiet_on | (refine ⟨_, fun _ _ => rfl, ?_⟩; go_big_quiet_on)))
      go_big_quiet_want
      refine Kit.quiet_to_string 32 9 5 (.tmp 40) rfl Try.underlying32 Try.underlying5 Try.underlying9 _ k (xs a b c k) rfl (fun w hw => hw.sl HS.out) ?_
      simp only [Act.put, List.setIfInBounds_toArray, List.set_cons_succ, List.set_cons_zero]
      go_big_quiet_on
      go_big_quiet_want
      go_big_quiet_op
      refine ⟨_, (fun w hw => (sum_eq _ (xs a b c k) w (by simp) (by rw [xs_len] <;> (unfold maxLen; omega))).mono fun e w' ⟨he, hb⟩ => ⟨he, hw.go hb⟩), ?_⟩
      go_big_quiet_on
      repeat (first | go_big_quiet_skip | (go_big_quiet_want; go_big_quiet_op; first | go_big_quiet_on | (refine ⟨_, fun _ _ => rfl, ?_⟩; go_big_quiet_on)))
      go_big_quiet_want
      go_big_quiet_op
      refine ⟨_, (fun w hw => (sum_eq _ (a.data.toList.take k) w (by simp) (by simp [maxLen]; omega)).mono fun e w' ⟨he, hb⟩ => ⟨he, hw.go hb⟩), ?_⟩
      go_big_quiet_on
      repeat (first | go_big_quiet_skip | (go_big_quiet_want; go_big_quiet_op; first | go_big_quiet_on | (refine ⟨_, fun _ _ => rfl, ?_⟩; go_big_quiet_on)))
      go_big_quiet_want
      go_big_quiet_op
      refine ⟨_, (fun w hw => (sum_eq _ (b.data.toList.take k) w (by simp) (by simp [maxLen]; omega)).mono fun e w' ⟨he, hb⟩ => ⟨he, hw.go hb⟩), ?_⟩
      go_big_quiet_on
      repeat (first | go_big_quiet_skip | (go_big_quiet_want; go_big_quiet_op; first | go_big_quiet_on | (refine ⟨_, fun _ _ => rfl, ?_⟩; go_big_quiet_on)))
      go_big_quiet_want
      go_big_quiet_op
      refine ⟨_, (fun w hw => (sum_eq _ (c.data.toList.take k) w (by simp) (by simp [maxLen]; omega)).mono fun e w' ⟨he, hb⟩ => ⟨he, hw.go hb⟩), ?_⟩
      go_big_quiet_on
      repeat (first | go_big_quiet_skip | (go_big_quiet_want; go_big_quiet_op; first | go_big_quiet_on | (refine ⟨_, fun _ _ => rfl, ?_⟩; go_big_quiet_on)))
      refine wpQuiet_nil ?_
      intro w9 hw9
      go_wp2
      go_ret
      exact ⟨rfl, HB1.out.trans ((Hbr.out.trans (Below.mono hw9 Hbr.out.size)).mono HB1.out.size)⟩
end CrcLine
end Go.Proofs.Ytlfbkkfcbpallaa
