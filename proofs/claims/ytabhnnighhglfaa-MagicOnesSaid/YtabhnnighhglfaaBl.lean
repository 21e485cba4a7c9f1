/-
  CONTRACTS of package bits: lay.
-/
import Derived.Test.YtabhnnighhglfaaBn
import Derived.Test.YtabhnnighhglfaaMid
namespace Go.Proofs.Ytabhnnighhglfaa
open Go.RowKit
namespace Bt
open Bm
theorem info_byte : (Try.prog.info? 5).map (fun i => (i.zero, i.size, i.bytes)) = some (some (.int .u8 0), 1, 1) := by kernel_rfl

/-- block k is no row of bytes -/
def NotBytes (w : World) (k : Nat) : Prop := ∀ c f, w.heap[k]? ≠ some (.cells c 5 f)
/-- of what was there, only block rb and rows of bytes from base on may have turned -/
def Kept (rb base : Nat) (w w' : World) : Prop := rb < base ∧ Below rb w w' ∧ ∀ k, rb < k → (k < base ∨ (k < w.heap.size ∧ NotBytes w k)) → w'.heap[k]? = w.heap[k]?
theorem Kept.refl {rb base : Nat} (h : rb < base) (w : World) : Kept rb base w w := ⟨h, Below.refl _ _, fun _ _ _ => rfl⟩
theorem Kept.trans {rb base : Nat} {a b c : World} (h : Kept rb base a b) (k : Kept rb base b c) : Kept rb base a c :=
  ⟨h.1, h.2.1.trans k.2.1, fun j h1 h2 => by
    have e := h.2.2 j h1 h2
    rw [k.2.2 j h1 (h2.imp id fun h3 => ⟨Nat.lt_of_lt_of_le h3.1 h.2.1.size, fun c f => by rw [e]; exact h3.2 c f⟩), e]⟩
theorem Kept.full {rb base : Nat} {a b c : World} (h : Kept rb base a b) (hs : base ≤ b.heap.size) (k : Below b.heap.size b c) : Kept rb base a c :=
  h.trans ⟨h.1, k.mono (by have := h.1; omega), fun j _ h2 => k.block j (h2.elim (fun h => by omega) (fun h => h.1))⟩
theorem Kept.set {rb base : Nat} {a b : World} (h : Kept rb base a b) (off : Nat) (u : Value) : Kept rb base a (b.setCell ⟨rb, off, none⟩ u) :=
  h.trans ⟨h.1, (Below.refl rb b).setCell (p := ⟨rb, off, none⟩) (Nat.le_refl _) u, fun j h1 _ => Below.heap_setCell b ⟨rb, off, none⟩ u j (by simp; omega)⟩
theorem Kept.grown {rb base : Nat} {a b c : World} {v : Value} {n : Nat} {xs : List Value} (h : Kept rb base a b) (ho : b.ownsRow base 5 1 v n xs) (hs : base ≤ b.heap.size) (hg : b.grownBy c v.ownBlock) : Kept rb base a c := by
  refine h.trans ⟨h.1, (Below.refl rb b).grown hg (by have := h.1; omega) (fun j e => by have := (ho.lt j e).1; have := h.1; omega), fun j h1 h2 => ?_⟩
  obtain ⟨_, ⟨rfl, _⟩ | ⟨g, cap, cur, rfl, e2, e3, _⟩⟩ := ho
  · exact hg.block j (h2.elim (fun h => by omega) (fun h => h.1)) (by simp [Value.ownBlock])
  · refine hg.block j (h2.elim (fun h => by omega) (fun h => h.1)) (fun e => ?_)
    simp only [Value.ownBlock, Option.some.injEq] at e
    rcases h2 with h2 | h2
    · omega
    · exact h2.2 cur (0, 0) (by rw [e]; exact e3)
theorem Kept.setOwn {rb base : Nat} {a b : World} {g cap n : Nat} {xs : List Value} (h : Kept rb base a b) (ho : b.ownsRow base 5 1 (.slice (some ⟨g, 0, none⟩) n cap) n xs) (hs : base ≤ b.heap.size) (p : Nat) (u : Value) : Kept rb base a (b.setCell ⟨g, p, none⟩ u) :=
  h.grown ho hs (ho.stored p u).2
theorem Kept.cell {rb base : Nat} {w w' : World} (h : Kept rb base w w') {p : Addr} (h1 : p.block ≠ rb) (h2 : p.block < base ∨ (p.block < w.heap.size ∧ NotBytes w p.block)) : w'.cell? p = w.cell? p := by
  by_cases h3 : p.block < rb
  · exact h.2.1.cell h3
  · exact World.cell?_of_block (w := w) (h.2.2 p.block (by omega) h2)
theorem Kept.frozen {rb base : Nat} {w w' : World} (h : Kept rb base w w') {p : Addr} (h1 : p.block ≠ rb) (h2 : p.block < base ∨ (p.block < w.heap.size ∧ NotBytes w p.block)) : w'.frozen? p = w.frozen? p := by
  by_cases h3 : p.block < rb
  · exact h.2.1.frozen h3
  · exact World.frozen?_of_block (w := w) (h.2.2 p.block (by omega) h2)
theorem Kept.size {rb base : Nat} {w w' : World} (h : Kept rb base w w') : w.heap.size ≤ w'.heap.size := h.2.1.size

/-- the row at block rb holds l, packed -/
structure RowAt (w : World) (rb base : Nat) (l : List Bool) (v : Value) : Prop where
  lt : rb < base
  le : base ≤ w.heap.size
  c0 : w.cell? ⟨rb, 0, none⟩ = some v
  c1 : w.cell? ⟨rb, 1, none⟩ = some (.int .i64 (l.length : Int))
  z0 : w.frozen? ⟨rb, 0, none⟩ = false
  z1 : w.frozen? ⟨rb, 1, none⟩ = false
  own : w.ownsRow base 5 1 v (enc l).length ((enc l).map Kit.B)

theorem or_val (b : UInt8) (P q k : Nat) (hP : P < 2 ^ k) (hk : k ≤ q) (hq : q ≤ 8) :
    bits BinOp.or IntKind.u8 (b.toNat : Int) (IntKind.u64.wrap ((P : Int) * (2 : Int) ^ (q - k)) % 256) = ((b ||| UInt8.ofNat (P * 2 ^ (q - k))).toNat : Int) := by
  have h1 : P * 2 ^ (q - k) < 2 ^ k * 2 ^ (q - k) := Nat.mul_lt_mul_of_pos_right hP (Nat.two_pow_pos _)
  rw [← Nat.pow_add, show k + (q - k) = q by omega] at h1
  have h2 : 2 ^ q ≤ 2 ^ 8 := Nat.pow_le_pow_right (by omega) hq
  have h3 : P * 2 ^ (q - k) < 256 := by omega
  rw [shl_val P (q - k) (by omega), show (((P * 2 ^ (q - k) : Nat) : Int) % 256) = ((P * 2 ^ (q - k) : Nat) : Int) by omega]
  have hb := b.toNat_lt
  rw [u8_or_nat b.toNat _ (by omega) (by omega), UInt8.toNat_or, UInt8.toNat_ofNat', Nat.mod_eq_of_lt h3]
set_option maxRecDepth 100000 in
set_option maxHeartbeats 1000000 in
theorem lay_at (rb base : Nat) (l : List Bool) (s : Value) (x y : Int) (v n : Nat) (w : World) (hR : RowAt w rb base l s) (hx : x = (v : Int)) (hy : y = (n : Int)) (hv : v < 2 ^ 64) (hn : n ≤ 64) (hl : l.length + n ≤ 1000000000000000) :
    Calls Try.prog 30 #[.pointer (some ⟨rb, 0, none⟩), .int .u64 x, .int .i64 y] w fun e w' => e = .returned (.tuple #[]) ∧ (∃ s', RowAt w' rb base (l ++ num v n) s') ∧ Kept rb base w w' := by
  subst hx hy
  obtain ⟨i0, hi, hz0, hz1, hz2⟩ := info_parts info_byte
  have Hi := Lib.hid hi
  have Hz0 := Lib.hid hz0
  have Hz1 := Lib.hid hz1
  have Hz2 := Lib.hid hz2
  clear hi hz0 hz1 hz2
  go_enter Try.func30, Try.ntmps30
  go_wp2
  go_loopw [2, 6, 7, 8] (fun q _ _ _ wr => ∃ m : Nat, m ≤ n ∧ q = .int .i64 ((n - m : Nat) : Int) ∧ (∃ s', RowAt wr rb base (l ++ num (v / 2 ^ (n - m)) m) s') ∧ Kept rb base w wr) (fun q _ _ _ _ => (intOf q).toNat)
  case atStart => exact ⟨0, by omega, by simp, ⟨s, by simpa [num] using hR⟩, Kept.refl hR.lt _⟩
  case round =>
    obtain ⟨m, hm, rfl, ⟨s', hr⟩, hk⟩ := hrel
    have Hr := Lib.hid hr
    have Hk := Lib.hid hk
    clear hr hk hR
    by_cases hlt : m < n
    · obtain ⟨L, hL⟩ : ∃ L, l ++ num (v / 2 ^ (n - m)) m = L := ⟨_, rfl⟩
      rw [hL] at Hr
      obtain ⟨r, hr⟩ : ∃ r, n - m = r := ⟨_, rfl⟩
      have hLl : L.length + r ≤ 1000000000000000 := by rw [← hL, List.length_append, num_len]; omega
      rw [hr]
      have hr0 : 0 < r := by omega
      have hr64 : r ≤ 64 := by omega
      obtain ⟨h1, h2, hc0, hc1, hf0, hf1, hown⟩ := Hr.out
      clear Hr
      have HL := Lib.hid hL
      have HR := Lib.hid hr
      have Hown := Lib.hid hown
      clear hL hr hown hlt
      obtain ⟨q, hq⟩ : ∃ q : Nat, 8 - L.length % 8 = q := ⟨_, rfl⟩
      have hX : 8 - (L.length : Int) % 8 = (q : Int) := by omega
      have hq1 : 1 ≤ q := by omega
      have hq8 : q ≤ 8 := by omega
      have HQ := Lib.hid hq
      clear hq
      by_cases h8 : L.length % 8 = 0
      case' pos =>
        have ht : ((L.length : Int) % 8 == 0) = true := by rw [beq_iff_eq]; omega
        have c1 : (enc L).length + 1 ≤ maxLen := by rw [enc_len]; unfold maxLen; omega
        have c2 : ((enc L).length + 1) * 1 ≤ 140737488355328 := by rw [enc_len]; omega
        have c5 : 1 ≤ maxLen := by unfold maxLen; omega
        have hone : ∀ u ∈ [Value.int .u8 (0 : Int)], u.oneCell' = true := by simp [Value.oneCell']
        have H8 := Lib.hid h8
        clear h8
        go_wp2_with (first
          | (refine Kit.wpList_min rfl (.tmp 32) (.tmp 33) 3 rfl q r rfl rfl ?_; intro k hk1 hk2 hk3)
          | (at_builtin; refine Kit.wpList_append_any rfl (.tmp 21) (.tmp 22) 45 rfl base 5 i0 (.int .u8 0) 1 1 Try.underlying45 Hi.out Hz0.out Hz1.out Hz2.out rfl (by decide) s' _ _ rfl (Hown.out.alloc _) _ 1 [.int .u8 0] rfl (Kit.Sl.lit _ #[.int .u8 0] 5 1 1 rfl c5) hone c1 c2 (Kit.le_alloc h2 _) ?_; intro v3 w3 hown3 hg3; obtain ⟨g, cap, rfl, hg, hcap, hcm⟩ := Kit.own_pos hown3 (by omega); have hb3 : Below base (wr.alloc (.cells #[.int .u8 0] 5)) w3 := (Below.refl _ _).grown hg3 (Kit.le_alloc h2 _) (fun j e => (Hown.out.lt j e).1); have hb4 : Below base wr w3 := ((Below.refl base wr).alloc h2 _).trans hb3; have d0 := (hb4.cell (p := ⟨rb, 0, none⟩) h1).trans hc0; have d1 := (hb4.cell (p := ⟨rb, 1, none⟩) h1).trans hc1; have e0 := (hb4.frozen (p := ⟨rb, 0, none⟩) h1).trans hf0; have e1 := (hb4.frozen (p := ⟨rb, 1, none⟩) h1).trans hf1; have Hown3 := Lib.hid hown3; clear hown3; have Hk3 : Hid (Kept rb base wr w3) := ((Kept.refl h1 wr).full h2 ((Below.refl _ _).alloc (Nat.le_refl _) _)).grown (Hown.out.alloc _) (Kit.le_alloc h2 _) hg3; clear hg3 hb3; have Hb4 := Lib.hid hb4; clear hb4))
        obtain ⟨p, hp⟩ : ∃ p, L.length / 8 = p := ⟨_, rfl⟩
        obtain ⟨D, hD⟩ : ∃ D, enc L ++ [0] = D := ⟨_, rfl⟩
        have hlen : (enc L).length + 1 = p + 1 := by rw [enc_len]; have := H8.out; omega
        rw [hlen] at Hown3 hcap ⊢
        have Hown4 : Hid ((w3.setCell ⟨rb, 0, none⟩ (.slice (some ⟨g, 0, none⟩) (p + 1) cap)).ownsRow base 5 1 (.slice (some ⟨g, 0, none⟩) (p + 1) cap) (p + 1) (D.map Kit.B)) := by
          have := ownsRow_setCell_below Hown3.out (a := ⟨rb, 0, none⟩) h1 (.slice (some ⟨g, 0, none⟩) (p + 1) cap)
          rw [← hD, List.map_append]; exact this
        have hkept : Kept rb base wr (w3.setCell ⟨rb, 0, none⟩ (.slice (some ⟨g, 0, none⟩) (p + 1) cap)) := Hk3.out.set 0 _
        have a0 : (w3.setCell ⟨rb, 0, none⟩ (.slice (some ⟨g, 0, none⟩) (p + 1) cap)).cell? ⟨rb, 0, none⟩ = some (.slice (some ⟨g, 0, none⟩) (p + 1) cap) := World.cell?_setCell_same _ _ _ d0
        have a1 : (w3.setCell ⟨rb, 0, none⟩ (.slice (some ⟨g, 0, none⟩) (p + 1) cap)).cell? ⟨rb, 1, none⟩ = some (.int .i64 (L.length : Int)) := by rw [World.cell?_setCell_other _ _ _ _ (by simp)]; exact d1
        have b0 : (w3.setCell ⟨rb, 0, none⟩ (.slice (some ⟨g, 0, none⟩) (p + 1) cap)).frozen? ⟨rb, 0, none⟩ = false := by simpa using e0
        have b1 : (w3.setCell ⟨rb, 0, none⟩ (.slice (some ⟨g, 0, none⟩) (p + 1) cap)).frozen? ⟨rb, 1, none⟩ = false := by simpa using e1
        have hs4 : base ≤ (w3.setCell ⟨rb, 0, none⟩ (.slice (some ⟨g, 0, none⟩) (p + 1) cap)).heap.size := by simpa using Nat.le_trans h2 Hb4.out.size
        obtain ⟨w4, hw4⟩ : ∃ w4, w3.setCell ⟨rb, 0, none⟩ (.slice (some ⟨g, 0, none⟩) (p + 1) cap) = w4 := ⟨_, rfl⟩
        rw [hw4] at Hown4 hkept a0 a1 b0 b1 hs4 ⊢
        have HD : Hid (D = if L.length % 8 = 0 then enc L ++ [0] else enc L) := (by rw [if_pos H8.out, hD] : D = if L.length % 8 = 0 then enc L ++ [0] else enc L)
        have Hkept := Lib.hid hkept
        have Hp := Lib.hid hp
        have Hs4 := Lib.hid hs4
        clear hw4 hkept hD hp d0 d1 e0 e1 hc0 hc1 hf0 hf1 Hown Hown3 hlen c1 c2 c5 hone hs4 H8 ht Hb4 Hk3
      case' neg =>
        have ht : ((L.length : Int) % 8 == 0) = false := by rw [beq_eq_false_iff_ne]; omega
        have H8 : Hid (¬ L.length % 8 = 0) := h8
        clear h8
        obtain ⟨g, cap, rfl, hg, hcap, hcm⟩ := Kit.own_pos Hown.out (by rw [enc_len]; have := H8.out; omega)
        obtain ⟨p, hp⟩ : ∃ p, L.length / 8 = p := ⟨_, rfl⟩
        obtain ⟨D, hD⟩ : ∃ D, enc L = D := ⟨_, rfl⟩
        have hlen : (enc L).length = p + 1 := by rw [enc_len]; have := H8.out; omega
        have a0 := hc0
        have a1 := hc1
        have b0 := hf0
        have b1 := hf1
        have Hown4 := Hown
        have Hs4 := Lib.hid h2
        rw [hlen] at Hown4 hcap a0
        rw [hD] at Hown4
        have HD : Hid (D = if L.length % 8 = 0 then enc L ++ [0] else enc L) := (by rw [if_neg H8.out, hD] : D = if L.length % 8 = 0 then enc L ++ [0] else enc L)
        have Hp := Lib.hid hp
        clear hD hp hc0 hc1 hf0 hf1 Hown hlen H8
        go_wp2_with (refine Kit.wpList_min rfl (.tmp 32) (.tmp 33) 3 rfl q r rfl rfl ?_; intro k hk1 hk2 hk3)
        clear ht
        obtain ⟨w4, hw4⟩ : ∃ w4, wr = w4 := ⟨_, rfl⟩
        rw [hw4] at Hown4 a0 a1 b0 b1 Hs4 ⊢
        have Hkept : Hid (Kept rb base wr w4) := (by rw [← hw4]; exact Kept.refl h1 wr : Kept rb base wr w4)
        clear hw4
      all_goals
        have HLl := Lib.hid hLl
        have HX := Lib.hid hX
        have H2 := Lib.hid h2
        have hkr : (k : Int) ≤ (r : Int) := by omega
        have hkq : (k : Int) ≤ (q : Int) := by omega
        have hp2 : (p : Int) ≤ 1000000000000000 := by have := Hp.out; have := HLl.out; omega
        have hgb : ¬ rb = g := by omega
        have hgb2 : ¬ g = rb := by omega
        clear hLl hX h2
        go_quiet (fail)
        go_wp2
        rw [low_val v (r - k) k hv (by omega)]
        obtain ⟨P, hP⟩ : ∃ P, v / 2 ^ (r - k) % 2 ^ k = P := ⟨_, rfl⟩
        rw [hP]
        have hDl : D.length = p + 1 := by have := Hown4.out.1; simpa using this
        have hpD : p < D.length := by omega
        obtain ⟨d, hd⟩ : ∃ d, (D.getD p 0).toNat = d := ⟨_, rfl⟩
        have hdd : D[p].toNat = d := by rw [← hd, List.getD_eq_getElem?_getD, List.getElem?_eq_getElem hpD]; rfl
        have hcl := Hown4.out.cellAt p (by omega)
        have hfr := Hown4.out.frozenAt p
        rw [List.getElem?_map, List.getElem?_eq_getElem hpD, Option.map_some, Kit.B, hdd] at hcl
        have HP := Lib.hid hP
        have Hd := Lib.hid hd
        have HpD := Lib.hid hpD
        have HDl := Lib.hid hDl
        clear hP hd hdd hpD hDl
        have hself : (w4.drewN nq).drew.setCell ⟨g, p, none⟩ (.int .u8 (d : Int)) = (w4.drewN nq).drew := Sched.setCell_self (by simpa using hcl)
        refine Sched.region_mid (fun w' => ∃ u, w' = (w4.drewN nq).drew.setCell ⟨g, p, none⟩ u) [0, 1, 2, 3, 4, 5, 6, 7, 8, 9, 10, 12, 13, 14, 15, 16, 17] [11, 18, 19] 20 ⟨_, hself.symm⟩ (by kernel_rfl) (by kernel_rfl) ?_
        clear hself
        simp only [Sched.pick_cons, Sched.pick_nil, Sched.at_succ, Sched.at_zero]
        repeat (first | go_big_quiet_skip | (go_big_quiet_want; go_big_quiet_op; go_big_quiet_on))
        refine wpQuiet_nil ?_
        repeat (first | go_big_quiet_skip | (go_big_quiet_want; go_big_quiet_op; go_big_quiet_on))
        refine wpQuiet_nil ?_
        go_wp2
        refine ⟨⟨_, rfl⟩, ?_⟩
        refine NoPanic.normal ?_
        go_wp2
        have hk1' : 1 ≤ k := by omega
        have hPk : P < 2 ^ k := by rw [← HP.out]; exact Nat.mod_lt _ (Nat.two_pow_pos _)
        have hstep : l ++ num (v / 2 ^ (n - (m + k))) (m + k) = L ++ num (v / 2 ^ (r - k)) k := by
          have e1 : n - (m + k) = r - k := by have := HR.out; omega
          rw [e1, num_split _ (m + k) m (by omega), ← List.append_assoc, ← HL.out, Nat.div_div_eq_div_mul, ← Nat.pow_add, show m + k - m = k by omega, show r - k + k = n - m by have := HR.out; omega]
        have hmore := enc_more L (num (v / 2 ^ (r - k)) k) k (num_len _ _) hk1' (by have := HQ.out; omega) D HD.out
        rw [val_num, HP.out, HQ.out, Hp.out] at hmore
        have hw : wrap64 ((L.length : Int) + k) = (((L ++ num (v / 2 ^ (r - k)) k).length : Nat) : Int) := by
          rw [List.length_append, num_len, IntWalk.wrap64_in _ ⟨by omega, by have := HLl.out; omega⟩]; omega
        have hv' := or_val (D.getD p 0) P q k hPk hk1 hq8
        rw [Hd.out] at hv'
        have hlen : (enc (L ++ num (v / 2 ^ (r - k)) k)).length = p + 1 := by rw [enc_len, List.length_append, num_len]; have := Hp.out; have := HQ.out; omega
        refine ⟨⟨m + k, by have := HR.out; omega, by congr 1; have := HR.out; omega, ?_, ?_⟩, by simp [intOf]; omega⟩
        · rw [hstep, hw, hv']
          have hown5 := (World.ownsRow.stored (w := w4.drewN (nq + 1)) Hown4.out p (Kit.B (D.getD p 0 ||| UInt8.ofNat (P * 2 ^ (q - k))))).1
          rw [← List.map_set, ← hmore] at hown5
          refine ⟨.slice (some ⟨g, 0, none⟩) (p + 1) cap, h1, by simpa using Hs4.out, ?_, ?_, ?_, ?_, ?_⟩
          · rw [World.cell?_setCell_other _ _ _ _ (by simp), World.cell?_setCell_other _ _ _ _ (by simp [])]; exact a0
          · refine World.cell?_setCell_same _ _ _ (u := .int .i64 (L.length : Int)) ?_
            rw [World.cell?_setCell_other _ _ _ _ (by simp [])]; exact a1
          · simpa using b0
          · simpa using b1
          · rw [hlen]
            exact ownsRow_setCell_below hown5 (a := ⟨rb, 1, none⟩) h1 _
        · exact (((Hk.out.trans Hkept.out).full Hs4.out (Kit.Dr.below ⟨nq + 1, rfl⟩ _)).setOwn (b := w4.drewN (nq + 1)) Hown4.out Hs4.out p _).set 1 _
    · obtain rfl : m = n := by omega
      have e0 : ((m - m : Nat) : Int) = 0 := by omega
      rw [e0]
      go_wp2
      go_end0
      exact ⟨rfl, ⟨s', by simpa using Hr.out⟩, Hk.out⟩
end Bt
end Go.Proofs.Ytabhnnighhglfaa
