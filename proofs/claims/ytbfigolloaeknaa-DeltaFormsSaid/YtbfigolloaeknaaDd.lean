/-
  Stage 9: what Take's deferred closure does.
-/
import Derived.Test.YtbfigolloaeknaaRows
import Derived.Test.YtbfigolloaeknaaMgc
namespace Go.Proofs.Ytbfigolloaeknaa
open Go.RowKit
namespace Dd
open Ab
theorem ag28 (w : World) : (isAgg 28).run Try.prog w = .ok false w := by kernel_rfl
theorem sz28 (w : World) : (sizeOf 28).run Try.prog w = .ok 1 w := by kernel_rfl
theorem sz22 (w : World) : (sizeOf 22).run Try.prog w = .ok 1 w := by kernel_rfl
theorem sz3 (w : World) : (sizeOf 3).run Try.prog w = .ok 1 w := by kernel_rfl
def up (x : Int) : List PanicEntry := [{ v := .iface 53 (.agg #[.int .i64 x]), recovered := false }]
def caught (x : Int) : List PanicEntry := [{ v := .iface 53 (.agg #[.int .i64 x]), recovered := true }]
abbrev caps3 : List AV := [Ptr 1 0, Ptr 2 0, Ptr 3 0]
abbrev hin3 : List (Nat × Chunk) := [(1, .var 22 [Any]), (2, .var 3 [Any]), (3, .var 28 [Any])]
abbrev hout3 (x : Int) : List (Nat × Chunk) := [(1, .var 22 [Is (.slice none 0 0)]), (2, .var 3 [Is (.int .i64 0)]), (3, .var 28 [Is (.int .i64 x)])]
theorem tk_catch (x : Int) : FDef Try.prog 25 caps3 hin3 (.panicking (up x)) (.panicking (caught x)) (hout3 x) where
  ent := run_callFunc Try.func25 rfl rfl
  calls := fun σ κ vs fr n hvs hr hfr => by
    match vs, hvs with
    | [p1, p2, p3], ⟨h1, h2, h3, _⟩ =>
      obtain ⟨b1, s1, rfl⟩ := h1
      obtain ⟨b2, s2, rfl⟩ := h2
      obtain ⟨b3, s3, rfl⟩ := h3
      have hta : ∀ w : World, (Instr.typeAssert (.iface 53 (.agg #[.int .i64 x])) 20 53 true).run Try.prog w = .ok (.tuple #[.agg #[.int .i64 x], .bool true]) w := fun _ => by kernel_rfl
      refine callsDIn_of_wpSM Try.func25 rfl trivial fun c₀ cs hu => ?_
      apply wpSIn_seq
      apply wpSIn_region
      simp [wpOpsSIn, go_sem, hta, recoverD, hu, up, Try.ntmps25, Exit.thenS]
      refine wpSIn_of_wpIn rfl ?_
      have hr1 := hr_more hr rfl hfr 4 53 [.int .i64 x] rfl (fun j c hc => by
        have h4 := low_sup (l := hin3) rfl hc
        intro hs
        have hz : ∀ y ∈ hin3, y.2.sup = [] := by decide
        rw [hz (j, c) (hpOf_mem hc)] at hs; cases hs)
      have hfr1 : ∀ b, fr b → b < (κ.new (.cells #[.int .i64 x] 53) (some 0)).w.heap.size := fun b hb => Nat.lt_of_lt_of_le (hfr b hb) (κ.new_le _ _).size
      have hRS := RS.start (N := 13) (args := caps3 ++ [Ptr 4 0, Is (.bool true), Any, Any, Any, Any, Any]) (hin := hin3 ++ [(4, .var 53 [Is (.int .i64 x)])]) (fr := fr) (σ := upd σ 4 (.pointer (some ⟨κ.w.heap.size, 0, none⟩))) (κ := κ.new (.cells #[.int .i64 x] 53) (some 0))
        (vs := [.pointer (some ⟨b1, 0, none⟩), .pointer (some ⟨b2, 0, none⟩), .pointer (some ⟨b3, 0, none⟩), .pointer (some ⟨κ.w.heap.size, 0, none⟩), .bool true, .tuple #[.agg #[.int .i64 x], .bool true], .iface 53 (.agg #[.int .i64 x]), .tuple #[.agg #[.int .i64 x], .bool true], .agg #[.int .i64 x], .bool true])
        rfl rfl rfl ⟨⟨b1, s1, rfl⟩, ⟨b2, s2, rfl⟩, ⟨b3, s3, rfl⟩, ⟨κ.w.heap.size, rfl, rfl⟩, rfl, trivial, trivial, trivial, trivial, trivial, trivial⟩ hr1 hfr1
      refine wpIn_act (a' := { tmps := ([.pointer (some ⟨b1, 0, none⟩), .pointer (some ⟨b2, 0, none⟩), .pointer (some ⟨b3, 0, none⟩), .pointer (some ⟨κ.w.heap.size, 0, none⟩), .bool true, .tuple #[.agg #[.int .i64 x], .bool true], .iface 53 (.agg #[.int .i64 x]), .tuple #[.agg #[.int .i64 x], .bool true], .agg #[.int .i64 x], .bool true] : List Value).toArray ++ Array.replicate 3 undef, defers := [] }) (by kernel_rfl) ?_
      refine wpIn_mono ((show W Try.prog 13 _ ⟨argE 0 (caps3 ++ [Ptr 4 0, Is (.bool true), Any, Any, Any, Any, Any]), hpOf (hin3 ++ [(4, .var 53 [Is (.int .i64 x)])]), 1⟩ (fun e st => e = .normal ∧ HpIn (fun i => i) st.heap (hout3 x)) from ?_) _ n _ _ Fix.plain_ok rfl hRS) ?_
      · refine W_seq ?_
        refine W_regionE (c := 1) (c' := 2) (by kernel_rfl) rfl ?_
        refine Runs_p rfl (Valid.movek (A := Is _) rfl rfl) rfl rfl ?_
        refine Runs_nil ?_
        refine thenQ_n ?_
        refine W_cond _ rfl (fun _ => ?_) (fun h => by cases h)
        refine W_drawE (c := 2) (c' := 7) (by kernel_rfl) rfl ?_
        refine Runs_p rfl (Valid.fieldaddr (off' := 0) rfl rfl (fun _ _ => by kernel_rfl)) rfl rfl ?_
        refine Runs_p rfl (Valid.load _ rfl ag28 rfl rfl rfl) rfl rfl ?_
        refine Runs_op rfl (Valid.store rfl sz22 rfl rfl (Nat.le_of_ble_eq_true rfl) (One.sl (Reads.nil (e := 1) rfl))) rfl ?_
        refine Runs_op rfl (Valid.store rfl sz3 rfl rfl (Nat.le_of_ble_eq_true rfl) (One.is rfl rfl rfl)) rfl ?_
        refine Runs_op rfl (Valid.store rfl sz28 rfl rfl (Nat.le_of_ble_eq_true rfl) (One.is rfl rfl rfl)) rfl ?_
        refine Runs_nil ?_
        refine ⟨_, _, rfl, rfl, by kernel_rfl, ?_⟩
        exact ⟨rfl, ⟨_, rfl, .var ⟨fun _ _ _ h => h, trivial⟩⟩, ⟨_, rfl, .var ⟨fun _ _ _ h => h, trivial⟩⟩, ⟨_, rfl, .var ⟨fun _ _ _ h => h, trivial⟩⟩, trivial⟩
      · rintro e a' w' ⟨st', ⟨rfl, hhp⟩, _, σ2, κ2, hw, hR⟩
        obtain ⟨ms, κ3, l1, l2, l3, l4, hR3⟩ := hR.leave
        have hle3 : (κ.new (.cells #[.int .i64 x] 53) (some 0)).le κ3 := hR3.le0
        unfold bodyPostSM
        refine ⟨.inl rfl, ms, .panicking (caught x), l1.trans (List.append_nil _), l2, fun r hr => by rw [← hw]; exact l3 r hr, rfl, .tuple #[], ?_, rfl, rfl, κ3, by rw [l4, hw], Kw.le_trans (κ.new_le _ _) hle3, fun b hb => ?_, ?_⟩
        · simp [results, Try.results25]
        · have h1 := hR3.old b hb
          have h2 := κ.new_old (.cells #[.int .i64 x] 53) (some 0) b (hfr b hb)
          exact ⟨h1.1.trans h2.1, h1.2.trans h2.2⟩
        · refine HR.congr (hhp.hr hR3.hr) (fun i c hc => ?_)
          have h4 := low_sup (l := hout3 x) rfl hc
          have hne : i ≠ 4 := fun e => by
            have h0 : hpOf (hout3 x) 4 = none := rfl
            rw [e, h0] at hc; cases hc
          have hpin : ∀ i, i < 8 → σ2 i = upd σ 4 (.pointer (some ⟨κ.w.heap.size, 0, none⟩)) i := hR3.pin
          refine ⟨by rw [hpin i h4.2.1, upd_other _ _ _ _ hne], fun s hs => ?_⟩
          have hz : ∀ y ∈ hout3 x, y.2.sup = [] := by simp [Chunk.sup, Is]
          rw [hz (i, c) (hpOf_mem hc)] at hs; cases hs
theorem tk_idle (hin : List (Nat × Chunk)) : FDef Try.prog 25 caps3 hin .returning .returning hin where
  ent := run_callFunc Try.func25 rfl rfl
  calls := fun σ κ vs fr n hvs hr hfr => by
    match vs, hvs with
    | [p1, p2, p3], ⟨h1, h2, h3, _⟩ =>
      obtain ⟨b1, s1, rfl⟩ := h1
      obtain ⟨b2, s2, rfl⟩ := h2
      obtain ⟨b3, s3, rfl⟩ := h3
      have hta : ∀ w : World, (Instr.typeAssert .nilIface 20 53 true).run Try.prog w = .ok (.tuple #[.agg #[.int .i64 0], .bool false]) w := fun _ => by kernel_rfl
      refine callsDIn_of_wpSM Try.func25 rfl trivial fun c₀ cs hu => ?_
      apply wpSIn_seq
      apply wpSIn_region
      simp [wpOpsSIn, go_sem, hta, recoverD, hu, Try.ntmps25, Exit.thenS]
      apply wpSIn_seq
      apply wpSIn_region
      simp [wpOpsSIn, go_sem, Exit.thenS]
      refine wpSIn_cond (t := false) (by simp [Act.eval, Array.replicate]) ?_
      simp only [Bool.false_eq_true, if_false]
      refine wpSIn_of_wpIn rfl (wpIn_skip ?_)
      have hold := κ.new_old (.cells #[.int .i64 0] 53) (some 0)
      unfold bodyPostSM
      refine ⟨.inl rfl, [], .returning, rfl, List.nodup_nil, (fun r hr => by cases hr), ?_, .tuple #[], ?_, rfl, rfl, κ.new (.cells #[.int .i64 0] 53) (some 0), rfl, κ.new_le _ _, fun b hb => hold b (hfr b hb), hr.grow (κ.new_le _ _) hold⟩
      · cases c₀; simp_all
      · simp [results, Try.results25]
theorem need_y (x : Int) (hx : x = 0) : FPure Try.prog 26 [Is (.int .i64 x)] (Tup []) where
  sup := rfl
  ent := run_callFunc Try.func26 rfl rfl
  calls := fun σ κ vs hvs => by
    match vs, hvs with
    | [v], ⟨h1, _⟩ =>
      have h1 : v = .int .i64 x := h1
      subst h1 hx
      refine Calls.mono (R := fun e w' => e = .returned (.tuple #[]) ∧ κ.w = w') ?_ ?_
      · go_enter Try.func26, Try.ntmps26
        go_wp2
        go_end0
        exact ⟨rfl, rfl⟩
      · rintro e w' ⟨rfl, rfl⟩
        exact ⟨_, κ, rfl, rfl, Kw.le_refl κ, fun _ _ => ⟨rfl, rfl⟩, [], rfl, trivial⟩
theorem need_n (x : Int) (hx : x ≠ 0) : FUp Try.prog 26 [Is (.int .i64 x)] [] (up x) where
  ent := run_callFunc Try.func26 rfl rfl
  calls := fun σ κ vs fr hvs _ _ => by
    match vs, hvs with
    | [v], ⟨h1, _⟩ =>
      have h1 : v = .int .i64 x := h1
      subst h1
      refine Calls.mono (R := fun e w' => e = .panicked (up x) ∧ κ.w = w') ?_ ?_
      · have hb : (!(x == (0 : Int))) = true := by simpa using hx
        go_enter Try.func26, Try.ntmps26
        go_wp2
        exact ⟨rfl, rfl, rfl⟩
      · rintro e w' ⟨rfl, rfl⟩
        exact ⟨κ, rfl, rfl, Kw.le_refl κ, fun _ _ => ⟨rfl, rfl⟩⟩
end Dd
end Go.Proofs.Ytbfigolloaeknaa
