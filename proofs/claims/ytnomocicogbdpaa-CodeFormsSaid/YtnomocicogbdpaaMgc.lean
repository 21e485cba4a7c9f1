/-
  The framework of these walks, several texts in one.
-/
import Derived.Test.YtnomocicogbdpaaMgb
namespace Go.Proofs.Ytnomocicogbdpaa
open Go.RowKit
namespace Ab
section
variable {P : Program} {nid : Nat} {o : Oper} {ρ : Operand → AV} {h : Heap}
theorem Valid.newbuf {el : TypeId} {l : List Value}
    (hrun : ∀ σ (κ : Kw) (a : Act), (∀ x ∈ o.op.operands, (ρ x).p σ κ (a.eval x)) → ∃ c κ', (execOp a.eval o).run P κ.w = .ok (.value (.slice (some ⟨κ.w.heap.size, 0, none⟩) l.length c)) κ'.w ∧ κ.le κ' ∧ (Chunk.buf el l).at σ κ' (.slice (some ⟨κ.w.heap.size, 0, none⟩) l.length c) ∧ (∀ b, b < κ.w.heap.size → κ'.own b = κ.own b ∧ κ'.w.heap[b]? = κ.w.heap[b]?) ∧ l.length ≤ c) :
    Valid P nid o ρ h ⟨Buf (8 * nid) l.length, [], [(8 * nid, some (.buf el l))]⟩ where
  run := fun base σ κ h' a next Q hops hrd hr hbase _ hfr hk => by
    have hid8 : 8 * nid / 8 = nid := by omega
    obtain ⟨c, κ', hrun', hle, hc, hold, hlc⟩ := hrun σ κ a hops
    unfold Oper.wp
    rw [hrun']
    refine hk _ (upd σ (8 * nid) (.slice (some ⟨κ.w.heap.size, 0, none⟩) l.length c)) κ' hle (fun b hb' => hold b (hbase b hb')) (fun i hi => upd_other _ _ _ _ (fun e => hi (by omega))) ⟨(upd_same _ _ _).symm, _, c, rfl, hlc⟩ ?_
    refine hr.set hle (8 * nid) _ (.buf el l) (fun _ => false) (fun i d hd hi _ g hg => ?_) hc (fun i g hi hi8 _ hg he => ?_) (fun g hg => ?_) (fun i d hd _ _ j hj => upd_other _ _ _ _ (fun e => (hfr i d hd).2 j hj (by omega))) _ (upd_same _ _ _) (fun i hi _ => upd_other _ _ _ _ hi) (fun i _ hf => by cases hf)
    · have := hold g (blk_lt hr hd hg)
      exact ⟨this.2, this.1⟩
    · cases hd : h' i with
      | none => exact hi hd
      | some d =>
        have he' : κ.w.heap.size = g := Option.some.inj he
        have := blk_lt hr hd hg; omega
    · have hg' : κ.w.heap.size = g := Option.some.inj hg
      intro hbg; have := hbase _ hbg; omega
  sup := fun U _ _ => ⟨fun s hs => .inr (by have : s ∈ [8 * nid] := hs; simp at this; omega), fun i c hc s hs => by
    simp only [List.mem_singleton, Prod.mk.injEq, Option.some.injEq] at hc
    obtain ⟨_, rfl⟩ := hc
    cases hs⟩
  wr := fun x hx => by simp at hx; subst hx; exact .inr (by simp)
theorem Valid.growbuf {id : Nat} {el : TypeId} {xs l : List Value} (hh : h id = some (.buf el xs)) 
    (hrun : ∀ σ (κ : Kw) (a : Act), (∀ x ∈ o.op.operands, (ρ x).p σ κ (a.eval x)) → (Chunk.buf el xs).at σ κ (σ id) → ∃ b c κ', (execOp a.eval o).run P κ.w = .ok (.value (.slice (some ⟨b, 0, none⟩) l.length c)) κ'.w ∧ κ.le κ' ∧ (Chunk.buf el l).at σ κ' (.slice (some ⟨b, 0, none⟩) l.length c) ∧ (∀ g, g < κ.w.heap.size → blk (σ id) ≠ some g → κ'.own g = κ.own g ∧ κ'.w.heap[g]? = κ.w.heap[g]?) ∧ (blk (σ id) = some b ∨ b = κ.w.heap.size) ∧ l.length ≤ c) :
    Valid P nid o ρ h ⟨Buf (8 * nid) l.length, [id], [(id, none), (8 * nid, some (.buf el l))]⟩ where
  run := fun base σ κ h' a next Q hops hrd hr hbase _ hfr hk => by
    have hid : h' id = some (.buf el xs) := by rw [hrd id (by simp), hh]
    have hid8 : 8 * nid / 8 = nid := by omega
    have hne : id ≠ 8 * nid := fun e => (hfr id _ hid).1 (by rw [e]; exact hid8)
    obtain ⟨b, c, κ', hrun', hle, hc, hold, hb, hlc⟩ := hrun σ κ a hops (hr.at_ id _ hid)
    unfold Oper.wp
    rw [hrun']
    refine hk _ (upd σ (8 * nid) (.slice (some ⟨b, 0, none⟩) l.length c)) κ' hle (fun g hb' => hold g (hbase g hb') (fun e => ?_)) (fun i hi => upd_other _ _ _ _ (fun e => hi (by omega))) ⟨(upd_same _ _ _).symm, _, c, rfl, hlc⟩ ?_
    · exact hr.base id _ g hid e hb'
    · refine hr.set hle (8 * nid) _ (.buf el l) (fun i => Nat.beq i id) (fun i d hd hi hgone g hg => ?_) hc (fun i g hi hi8 hgone hg he => ?_) (fun g hg => ?_) (fun i d hd _ _ j hj => upd_other _ _ _ _ (fun e => (hfr i d hd).2 j hj (by omega))) _ ?_ ?_ ?_
      · have hiid : i ≠ id := fun e => by subst e; simp at hgone
        have := hold g (blk_lt hr hd hg) (fun e => hr.far i id g hiid (by rw [hd]; simp) (by rw [hid]; simp) hg e)
        exact ⟨this.2, this.1⟩
      · have hiid : i ≠ id := fun e => by subst e; simp at hgone
        cases hd : h' i with
        | none => exact hi hd
        | some d =>
          have he' : b = g := Option.some.inj he
          subst he'
          rcases hb with h2 | h2
          · exact hr.far i id _ hiid hi (by rw [hid]; simp) hg h2
          · have := blk_lt hr hd hg; omega
      · have hg' : b = g := Option.some.inj hg
        subst hg'
        rcases hb with h2 | h2
        · exact hr.base id _ _ hid h2
        · intro hbg; have := hbase _ hbg; omega
      · simp only [updl]; exact upd_same _ _ _
      · intro i hi hgone
        have hiid : i ≠ id := fun e => by subst e; simp at hgone
        simp only [updl]
        rw [upd_other _ _ _ _ hi, upd_other _ _ _ _ hiid]
      · intro i hi hgone
        have hiid : i = id := Nat.eq_of_beq_eq_true hgone
        subst hiid
        simp only [updl]
        rw [upd_other _ _ _ _ hi, upd_same]
  sup := fun U _ _ => ⟨fun s hs => .inr (by have : s ∈ [8 * nid] := hs; simp at this; omega), fun i c hc s hs => by
    simp only [List.mem_cons, Prod.mk.injEq, List.not_mem_nil, or_false] at hc
    rcases hc with ⟨_, hc⟩ | ⟨_, hc⟩
    · cases hc
    · cases hc; cases hs⟩
  wr := fun x hx => by
    simp only [List.mem_cons, List.not_mem_nil, or_false] at hx
    rcases hx with rfl | rfl
    · exact .inl ⟨by simp, by rw [hh]; simp⟩
    · exact .inr (by simp)
theorem Kw.drew_new_le (κ : Kw) (ob : Obj) (k : Option Nat) : κ.le ((⟨κ.w.drew, κ.own, κ.lt⟩ : Kw).new ob k) := Kw.le_trans κ.drew_le (Kw.new_le _ _ _)
theorem zc_len (c : Array Value) (n : Nat) : (Builtin.zeroCells c n).toList.length = n * c.size := by rw [Array.length_toList, size_zeroCells]
/-- 'append' onto nil, of something: a row that may be written -/
theorem Valid.appendnilB {x y : Operand} {t el : TypeId} {i : TypeInfo} {z : Value} {m bytes : Nat} {ys : List Value} (ho : o.op = .call { callee := .builtin .append, args := #[x, y], argTypes := #[t, t] })
    (ht : P.underlying t = some (.slice el)) (hi : P.info? el = some i) (hz : i.zero = some z) (hsize : i.size = 1) (hby : i.bytes = bytes) (hzs : z.cells.size = 1)
    (hx : ρ x = Is (.slice none 0 0)) (hy : Reads (ρ y) 1 m ys) (h0 : 0 < m) (hm : m ≤ maxLen) (hb : m * bytes ≤ 140737488355328) :
    Valid P nid o ρ h ⟨Buf (8 * nid) ys.length, [], [(8 * nid, some (.buf el ys))]⟩ :=
  .newbuf fun σ κ a hops => by
    have e1 := hops x (by rw [ho]; simp [Op.operands, Call.operands])
    have e2 := hy σ κ _ (hops y (by rw [ho]; simp [Op.operands, Call.operands]))
    rw [hx] at e1
    have e1 : a.eval x = .slice none 0 0 := e1
    obtain ⟨hul, ⟨_, h3⟩ | ⟨ad, c, hu, hc1, hc2, hrd⟩⟩ := e2
    · omega
    have hnews : ∀ j y, ys[j]? = some y → κ.w.cell? (ad.add j) = some y := fun j y hj => by
      obtain ⟨s1, s2, _⟩ := hrd j y hj
      rw [add_eq s1]; exact s2
    have hr := run_append_nil (P := P) κ.w t o.type el i z ht hi hz ad m c ys (by rw [hsize]; exact hul) hnews (by omega) (by unfold maxLen at hm; omega) (by rw [hby]; omega)
    have hge := grownCap_ge κ.w m 0 el
    have hcap := grownCap_le_maxLen κ.w m 0 el hm
    have hlen : ys.length = m := by omega
    have harr : ys.toArray ++ Builtin.zeroCells z.cells (grownCap κ.w m 0 el - m) = (ys ++ (Builtin.zeroCells z.cells (grownCap κ.w m 0 el - m)).toList).toArray := by apply Array.ext'; simp
    have hat := Kw.new_at (⟨κ.w.drew, κ.own, κ.lt⟩ : Kw) (.cells (ys.toArray ++ Builtin.zeroCells z.cells (grownCap κ.w m 0 el - m)) el) (some 0)
    refine ⟨grownCap κ.w m 0 el, (⟨κ.w.drew, κ.own, κ.lt⟩ : Kw).new (.cells (ys.toArray ++ Builtin.zeroCells z.cells (grownCap κ.w m 0 el - m)) el) (some 0), ?_, Kw.drew_new_le _ _ _, ⟨κ.w.heap.size, (Builtin.zeroCells z.cells (grownCap κ.w m 0 el - m)).toList, (0, 0), grownCap κ.w m 0 el, rfl, ?_, fun j _ hf => by omega, ?_, hcap, hat.2⟩, fun b hb => Kw.new_old (⟨κ.w.drew, κ.own, κ.lt⟩ : Kw) _ _ b hb, by omega⟩
    · unfold execOp
      rw [ho]
      rw [← hlen] at hr ⊢
      simp only [resolve, invoke, builtin, Sem.run_bind, Sem.run_pure, Result.andThen_ok, List.map_toArray, List.map_cons, List.map_nil, e1, hu]
      rw [hlen] at hr ⊢
      simp only [hr, Result.andThen_ok]
      rfl
    · rw [← harr]; exact hat.1
    · rw [zc_len, hzs]; omega
theorem run_append_room_fr (w : World) (t ty e : TypeId) (i : TypeInfo) (ht : P.underlying t = some (.slice e)) (hi : P.info? e = some i)
    (b sLen sCap : Nat) (a : Addr) (m c : Nat) (news : List Value) (hl : news.length = m * i.size) (hnews : ∀ j u, news[j]? = some u → w.cell? (a.add j) = some u) (h1 : ∀ u ∈ news, u.oneCell' = true)
    (cur : Array Value) (t0 : TypeId) (fr : Nat × Nat) (hg : w.heap[b]? = some (.cells cur t0 fr)) (hroom : sLen + m ≤ sCap) (hf : ∀ j, sLen * i.size ≤ j → j < sLen * i.size + news.length → ¬ (fr.1 ≤ j ∧ j < fr.2)) (hfit : sLen * i.size + news.length ≤ cur.size) :
    (Builtin.append_ #[t, t] ty #[.slice (some ⟨b, 0, none⟩) sLen sCap, .slice (some a) m c]).run P w = .ok (.slice (some ⟨b, 0, none⟩) (sLen + m) sCap) (w.setRow b (cur.toList.take (sLen * i.size) ++ news ++ cur.toList.drop (sLen * i.size + news.length)).toArray) := by
  have hfc := run_firstCells_some (P := P) w i.size m a m c news hl hnews
  have hst := storeCells_fr (P := P) b (sLen * i.size) t0 fr news 0 cur w hg (by simpa using hf) (by simpa using hfit) h1
  simp only [Nat.add_zero] at hst
  have hadd : (⟨b, 0, none⟩ : Addr).add (sLen * i.size) = ⟨b, sLen * i.size, none⟩ := by unfold Addr.add; split <;> simp_all
  simp [Builtin.append_, run_underlying ht, sizeOf, typeInfo, hi, Builtin.lenOf, hroom, hfc, hadd, hst]
/-- 'append' onto such a row -/
theorem Valid.appendB {x y : Operand} {t el : TypeId} {i : TypeInfo} {z : Value} {id n m bytes : Nat} {xs ys : List Value} (ho : o.op = .call { callee := .builtin .append, args := #[x, y], argTypes := #[t, t] })
    (ht : P.underlying t = some (.slice el)) (hi : P.info? el = some i) (hz : i.zero = some z) (hsize : i.size = 1) (hby : i.bytes = bytes) (hzs : z.cells.size = 1)
    (hx : ρ x = Buf id n) (hh : h id = some (.buf el xs)) (hy : Reads (ρ y) 1 m ys) (h1 : ∀ u ∈ ys, u.oneCell' = true) (h0 : 0 < m) (hm : xs.length + m ≤ maxLen) (hb : (xs.length + m) * bytes ≤ 140737488355328) :
    Valid P nid o ρ h ⟨Buf (8 * nid) (xs ++ ys).length, [id], [(id, none), (8 * nid, some (.buf el (xs ++ ys)))]⟩ :=
  .growbuf hh fun σ κ a hops hat => by
    have e1 := hops x (by rw [ho]; simp [Op.operands, Call.operands])
    have e2 := hy σ κ _ (hops y (by rw [ho]; simp [Op.operands, Call.operands]))
    rw [hx] at e1
    obtain ⟨e1, _⟩ := e1
    obtain ⟨g, tl, fr, cap, hσ, hheap, hfr, hcl, hcm, hown⟩ := hat
    rw [hσ] at e1
    obtain ⟨hul, ⟨_, h3⟩ | ⟨ad, c, hu, hc1, hc2, hrd⟩⟩ := e2
    · omega
    have hlen : ys.length = m := by omega
    have hlen2 : (xs ++ ys).length = xs.length + m := by rw [List.length_append, hlen]
    have hnews : ∀ j y, ys[j]? = some y → κ.w.cell? (ad.add j) = some y := fun j y hj => by
      obtain ⟨s1, s2, _⟩ := hrd j y hj
      rw [add_eq s1]; exact s2
    have hblk : blk (σ id) = some g := by rw [hσ]; rfl
    have hm' : ((xs.length + m : Nat) : Int) ≤ 9223372036854775807 := by unfold maxLen at hm; omega
    rw [hlen2]
    by_cases hroom : xs.length + m ≤ cap
    · have hr := run_append_room_fr (P := P) κ.w t o.type el i ht hi g xs.length cap ad m c ys (by rw [hsize]; exact hul) hnews h1 (xs ++ tl).toArray el fr hheap hroom (fun j h6 h7 => hfr j (by rw [hsize] at h7; omega)) (by rw [hsize]; simp; omega)
      have ecut : (xs ++ tl).take xs.length ++ ys ++ (xs ++ tl).drop (xs.length + ys.length) = xs ++ ys ++ tl.drop m := by
        rw [List.take_left, List.drop_append, List.drop_of_length_le (by omega), List.nil_append, show xs.length + ys.length - xs.length = m by omega]
      rw [hsize, Nat.mul_one, show (xs ++ tl).toArray.toList = xs ++ tl from rfl, ecut] at hr
      let κ' : Kw := ⟨κ.w.setRow g (xs ++ ys ++ tl.drop m).toArray, κ.own, fun b k hb => by rw [size_setRow]; exact κ.lt b k hb⟩
      have hle : κ.le κ' := ⟨rfl, rfl, rfl, by show κ.w.heap.size ≤ _; rw [size_setRow]; exact Nat.le_refl _,
        fun b _ hb => ⟨hb, setRow_other _ _ _ _ (fun e => by subst e; rw [hown] at hb; cases hb)⟩,
        fun b k hb => ⟨fun k' hk' => by have : κ.own b = some k' := hk'; rw [hb] at this; cases this; exact Nat.le_refl _, fun j u hj hu => by
          have hgb : b ≠ g := fun e => by subst e; rw [hown] at hb; cases hb; omega
          simp only [World.cell?] at hu ⊢
          rw [show κ'.w.heap[b]? = κ.w.heap[b]? from setRow_other _ _ _ _ hgb]
          exact hu⟩⟩
      refine ⟨g, cap, κ', ?_, hle, ⟨g, tl.drop m, fr, cap, by rw [hlen2], setRow_heap _ _ _ _ _ _ hheap, hfr, ?_, hcm, hown⟩, fun b _ hne => ?_, .inl hblk, hroom⟩
      · unfold execOp
        rw [ho]
        simp only [resolve, invoke, builtin, Sem.run_bind, Sem.run_pure, Result.andThen_ok, List.map_toArray, List.map_cons, List.map_nil, e1, hu, hr]
        rfl
      · rw [hlen2, List.length_drop]; omega
      · have hbg : b ≠ g := fun e => hne (by rw [hblk, e])
        exact ⟨rfl, setRow_other _ _ _ _ hbg⟩
    · have holds : ∀ j u, xs[j]? = some u → κ.w.cell? ((⟨g, 0, none⟩ : Addr).add j) = some u := fun j u hj => by
        have e : (⟨g, 0, none⟩ : Addr).add j = ⟨g, j, none⟩ := by unfold Addr.add; split <;> simp_all
        have hjl := (List.getElem?_eq_some_iff.1 hj).1
        rw [e, cell_of_row _ _ _ _ _ _ hheap, List.getElem?_toArray, List.getElem?_append_left hjl]
        exact hj
      have hr := run_append_grow (P := P) κ.w t o.type el i z ht hi hz ⟨g, 0, none⟩ xs.length cap xs (by rw [hsize]; omega) holds ad m c ys (by rw [hsize]; exact hul) hnews (by omega) hm' (growslice_fits (by omega) (by rw [hby]; exact hb))
      have hge := grownCap_ge κ.w (xs.length + m) cap el
      have hcap := grownCap_le_maxLen κ.w (xs.length + m) cap el hm
      have hat := Kw.new_at (⟨κ.w.drew, κ.own, κ.lt⟩ : Kw) (.cells (xs.toArray ++ ys.toArray ++ Builtin.zeroCells z.cells (grownCap κ.w (xs.length + m) cap el - (xs.length + m))) el) (some 0)
      have harr : xs.toArray ++ ys.toArray ++ Builtin.zeroCells z.cells (grownCap κ.w (xs.length + m) cap el - (xs.length + m)) = (xs ++ ys ++ (Builtin.zeroCells z.cells (grownCap κ.w (xs.length + m) cap el - (xs.length + m))).toList).toArray := by apply Array.ext'; simp
      refine ⟨κ.w.heap.size, grownCap κ.w (xs.length + m) cap el, _, ?_, Kw.drew_new_le _ _ _, ⟨κ.w.heap.size, (Builtin.zeroCells z.cells (grownCap κ.w (xs.length + m) cap el - (xs.length + m))).toList, (0, 0), _, by rw [hlen2], by rw [← harr]; exact hat.1, fun j _ hf => by omega, ?_, hcap, hat.2⟩, fun b hb _ => Kw.new_old (⟨κ.w.drew, κ.own, κ.lt⟩ : Kw) _ _ b hb, .inr rfl, by omega⟩
      · unfold execOp
        rw [ho]
        simp only [resolve, invoke, builtin, Sem.run_bind, Sem.run_pure, Result.andThen_ok, List.map_toArray, List.map_cons, List.map_nil, e1, hu, hr]
        rfl
      · rw [hlen2, zc_len, hzs]; omega
/-- one more -/
theorem Valid.appendB1 {G : Type} {f : G → Value} {x y : Operand} {t el : TypeId} {i : TypeInfo} {z : Value} {id n bytes : Nat} {l : List G} {v : G} (ho : o.op = .call { callee := .builtin .append, args := #[x, y], argTypes := #[t, t] })
    (ht : P.underlying t = some (.slice el)) (hi : P.info? el = some i) (hz : i.zero = some z) (hsize : i.size = 1) (hby : i.bytes = bytes) (hzs : z.cells.size = 1)
    (hx : ρ x = Buf id n) (hh : h id = some (.buf el (l.map f))) (hy : Reads (ρ y) 1 1 [f v]) (h1 : (f v).oneCell' = true) (hm : l.length + 1 ≤ maxLen) (hb : (l.length + 1) * bytes ≤ 140737488355328) :
    Valid P nid o ρ h ⟨Buf (8 * nid) (l ++ [v]).length, [id], [(id, none), (8 * nid, some (.buf el ((l ++ [v]).map f)))]⟩ := by
  have hv := Valid.appendB (P := P) (nid := nid) ho ht hi hz hsize hby hzs hx hh hy (fun u hu => by simp at hu; subst hu; exact h1) (by omega) (by simpa using hm) (by simpa using hb)
  have e1 : l.map f ++ [f v] = (l ++ [v]).map f := by simp
  have e2 : (l.map f ++ [f v]).length = (l ++ [v]).length := by simp
  rw [e2, e1] at hv
  exact hv
theorem Valid.appnilB {G : Type} {f : G → Value} {l : List G} {x y : Operand} {t el : TypeId} {m bytes : Nat} (ho : o.op = .call { callee := .builtin .append, args := #[x, y], argTypes := #[t, t] })
    (ht : P.underlying t = some (.slice el)) (hi : TI P el 1 bytes) (hx : ρ x = Is (.slice none 0 0)) (hy : Reads (ρ y) 1 m (l.map f)) (h0 : 0 < m) (hm : m ≤ maxLen) (hb : m * bytes ≤ 140737488355328) :
    Valid P nid o ρ h ⟨Buf (8 * nid) l.length, [], [(8 * nid, some (.buf el (l.map f)))]⟩ := by
  obtain ⟨i, z, h2, h3, h4, h5, h6⟩ := hi
  have hv := Valid.appendnilB (P := P) (nid := nid) (h := h) ho ht h2 h3 h4 h5 h6 hx hy h0 hm hb
  rwa [List.length_map] at hv
theorem Valid.appB {G : Type} {f : G → Value} {x y : Operand} {t el : TypeId} {id n bytes : Nat} {l : List G} {v : G} (ho : o.op = .call { callee := .builtin .append, args := #[x, y], argTypes := #[t, t] })
    (ht : P.underlying t = some (.slice el)) (hi : TI P el 1 bytes) (hx : ρ x = Buf id n) (hh : h id = some (.buf el (l.map f))) (hy : Reads (ρ y) 1 1 [f v]) (h1 : (f v).oneCell' = true) (hm : l.length + 1 ≤ maxLen) (hb : (l.length + 1) * bytes ≤ 140737488355328) :
    Valid P nid o ρ h ⟨Buf (8 * nid) (l ++ [v]).length, [id], [(id, none), (8 * nid, some (.buf el ((l ++ [v]).map f)))]⟩ := by
  obtain ⟨i, z, h2, h3, h4, h5, h6⟩ := hi
  exact .appendB1 ho ht h2 h3 h4 h5 h6 hx hh hy h1 hm hb
/-- a literal that will be written -/
theorem Valid.litbuf {G : Type} (f : G → Value) (l : List G) {t el : TypeId} {n : Nat} {parts : Array (Nat × Operand)} (ho : o.op = .buildSlice t n parts)
    (hp : parts.toList.map (fun x => (x.1, ρ x.2)) = (pairs 0 (l.map f)).map (fun x => (x.1, Is x.2)))
    (hrun : ∀ w : World, (Instr.buildSlice t n (pairs 0 (l.map f)).toArray).run P w = .ok (.slice (some ⟨w.heap.size, 0, none⟩) n n) (w.alloc (.cells (l.map f).toArray el))) (hl : (l.map f).length = n) (hn : n ≤ maxLen) :
    Valid P nid o ρ h ⟨Buf (8 * nid) l.length, [], [(8 * nid, some (.buf el (l.map f)))]⟩ := by
  have hv : Valid P nid o ρ h ⟨Buf (8 * nid) (l.map f).length, [], [(8 * nid, some (.buf el (l.map f)))]⟩ := .newbuf fun σ κ a hops => by
    have hv : (parts.map fun x => (x.1, a.eval x.2)) = (pairs 0 (l.map f)).toArray := by
      apply Array.ext'
      rw [Array.toList_map]
      exact parts_known parts.toList _ (fun x hx => hops x.2 (by rw [ho]; simp [Op.operands]; exact ⟨x.1, by simpa using hx⟩)) hp
    have hat := κ.new_at (.cells (l.map f).toArray el) (some 0)
    refine ⟨n, κ.new (.cells (l.map f).toArray el) (some 0), ?_, κ.new_le _ _, ⟨κ.w.heap.size, [], (0, 0), n, rfl, by rw [List.append_nil]; exact hat.1, fun j _ hf => by omega, by rw [hl]; rfl, hn, hat.2⟩, fun b hb => κ.new_old _ _ b hb, by omega⟩
    unfold execOp
    rw [ho, hl]
    simp only [hv, hrun, Sem.run_bind, Result.andThen_ok, Sem.run_pure]
    rfl
  rwa [List.length_map] at hv
/-- what is lent to a call: cells that may turn, but not by it -/
def argsLend (ρ : Operand → AV) (id n : Nat) (xs : List Value) : List Operand → List AV → Prop
  | [], [] => True
  | x :: os, A :: l => ((∀ σ κ v, (ρ x).p σ κ v → A.p σ κ v) ∨ (ρ x = Buf id n ∧ A = Sl 1 xs.length xs)) ∧ argsLend ρ id n xs os l
  | _, _ => False
def Free (A : AV) : Prop := ∀ σ κ κ' v, A.p σ κ v → A.p σ κ' v
theorem Free.is {v : Value} : Free (Is v) := fun _ _ _ _ h => h
def Frees : List AV → Prop
  | [] => True
  | A :: l => Free A ∧ Frees l
theorem Frees.all2 {σ : Names} {κ κ' : Kw} : ∀ {l : List AV} {us : List Value}, Frees l → All2 σ κ l us → All2 σ κ' l us
  | [], [], _, _ => trivial
  | _ :: _, _ :: _, ⟨h1, h2⟩, ⟨h3, h4⟩ => ⟨h1 _ _ _ _ h3, h2.all2 h4⟩
  | [], _ :: _, _, h => h.elim
  | _ :: _, [], _, h => h.elim
theorem Free.tup {l : List AV} (h : Frees l) : Free (Tup l) := fun _ _ _ _ ⟨us, e, hu⟩ => ⟨us, e, h.all2 hu⟩
theorem Free.agg {l : List AV} (h : Frees l) : Free (Agg l) := fun _ _ _ _ ⟨us, e, hu⟩ => ⟨us, e, h.all2 hu⟩
theorem Valid.lend {f : FuncId} {os : Array Operand} {ts : Array TypeId} {avs : List AV} {A : AV} {id n : Nat} {t : TypeId} {xs : List Value} (hh : h id = some (.buf t xs)) (hn : n = xs.length) (ho : o.op = .call { callee := .value (.func f), args := os, argTypes := ts })
    (hc : FPure P f avs A) (ha : argsLend ρ id n xs os.toList avs) (hA : Free A) : Valid P nid o ρ h ⟨A, [id], []⟩ where
  run := fun base σ κ h' a next Q hops hrd hr hbase _ _ hk => by
    have hid : h' id = some (.buf t xs) := by rw [hrd id (by simp), hh]
    obtain ⟨b, tl, fr, c, hσ, hheap, hfr, hcl, hcm, hown⟩ := hr.at_ id _ hid
    have hblk : blk (σ id) = some b := by rw [hσ]; rfl
    have hbb : ¬ base b := hr.base id _ b hid hblk
    let κb : Kw := ⟨κ.w, fun g => if g = b then none else κ.own g, fun g m hg => by
      split at hg
      · cases hg
      · exact κ.lt g m hg⟩
    have hleb : κ.le κb := { os := rfl, tape := rfl, output := rfl, size := Nat.le_refl _, still := fun g hg ho => ⟨by simp [κb, ho], rfl⟩, grow := fun g m hm => ⟨fun k' hk' => by
      have hk' : (if g = b then none else κ.own g) = some k' := hk'
      split at hk'
      · cases hk'
      · rw [hm] at hk'; cases hk'; exact Nat.le_refl _, fun j u _ hu => hu⟩ }
    have hops' : ∀ x ∈ os.toList, (ρ x).p σ κ (a.eval x) := fun x hx => hops x (by rw [ho]; simp [Op.operands, Call.operands]; exact .inr (by simpa using hx))
    have hall : ∀ (os : List Operand) (avs : List AV), argsLend ρ id n xs os avs → (∀ x ∈ os, (ρ x).p σ κ (a.eval x)) → All2 σ κb avs (os.map a.eval) := by
      intro os
      induction os with
      | nil => intro avs ha _; cases avs with
        | nil => trivial
        | cons _ _ => exact ha.elim
      | cons x os ih =>
        intro avs ha hx
        cases avs with
        | nil => exact ha.elim
        | cons A avs =>
          refine ⟨?_, ih avs ha.2 (fun y hy => hx y (by simp [hy]))⟩
          have h1 := hx x (by simp)
          rcases ha.1 with h2 | ⟨h2, rfl⟩
          · exact A.mono hleb (h2 _ _ _ h1)
          · rw [h2] at h1
            obtain ⟨h1, b', c', hu, hc'⟩ := h1
            have hcn : c' = c := by rw [h1, hσ] at hu; cases hu; rfl
            subst hcn
            show SlP κb 1 xs.length xs (a.eval x)
            refine ⟨by omega, .inr ⟨⟨b, 0, none⟩, c', by rw [h1, hσ], by omega, hcm, fun j u hj => ⟨rfl, ?_, fun m hm => ?_⟩⟩⟩
            · show World.cell? κ.w ⟨b, 0 + j, none⟩ = some u
              have hjl := (List.getElem?_eq_some_iff.1 hj).1
              rw [Nat.zero_add, cell_of_row _ _ _ _ _ _ hheap, List.getElem?_toArray, List.getElem?_append_left hjl]
              exact hj
            · have hm : (if b = b then none else κ.own b) = some m := hm
              simp at hm
    have hcalls := hc.calls σ κb _ (hall os.toList avs ha hops')
    unfold Oper.wp execOp
    rw [ho]
    simp only [resolve, Act.eval, Deferred.ofValue, invoke, Sem.run_bind, Sem.run_pure, Result.andThen_ok]
    have e : Array.map a.eval os = (os.toList.map a.eval).toArray := by apply Array.ext'; simp
    have e2 : (fun x : Operand => match x with | Operand.tmp t => a.tmps.getD t undef | Operand.const v => v | Operand.global g => Value.pointer (some { block := g, off := 0 }) | Operand.func f => Value.func (Fn.func f) #[] #[]) = a.eval := by
      funext x; cases x <;> rfl
    simp only [e, Array.empty_append, Array.append_empty, hc.ent]
    simp only [Oper.upon]
    refine hcalls.mono ?_
    rintro e w' ⟨v, κ1, rfl, rfl, hle, hold, hAv⟩
    have hbs : b < κ.w.heap.size := κ.lt b 0 hown
    let κ' : Kw := ⟨κ1.w, fun g => if g = b then some 0 else κ1.own g, fun g m hg => by
      split at hg
      · rename_i e; rw [e]; exact Nat.lt_of_lt_of_le hbs hle.size
      · exact κ1.lt g m hg⟩
    have hold' : ∀ g, g < κ.w.heap.size → κ'.own g = κ.own g ∧ κ'.w.heap[g]? = κ.w.heap[g]? := fun g hg => by
      have := hold g hg
      refine ⟨?_, this.2⟩
      by_cases e : g = b
      · subst e; simp [κ', hown]
      · have h1 : κ1.own g = if g = b then none else κ.own g := this.1
        simp [κ', e, h1]
    have hle' : κ.le κ' := { os := hle.os, tape := hle.tape, output := hle.output, size := hle.size, still := fun g hg ho => ⟨(hold' g hg).1.trans ho, (hold' g hg).2⟩, grow := fun g m hm => ⟨fun k' hk' => by rw [(hold' g (κ.lt g m hm)).1, hm] at hk'; cases hk'; exact Nat.le_refl _, fun j u _ hu => by
        simp only [World.cell?] at hu ⊢
        rw [(hold' g (κ.lt g m hm)).2]; exact hu⟩ }
    exact hk v σ κ' hle' (fun g hg => hold' g (hbase g hg)) (fun _ _ => rfl) (hA _ _ _ _ hAv) (hr.grow hle' hold')
  sup := fun U _ _ => ⟨(fun s hs => by have : s ∈ A.sup := hs; rw [hc.sup] at this; cases this), fun i c hc => by cases hc⟩
  wr := fun x hx => by cases hx
end
/-! ### structs of two numbers, compared -/
structure TwoI (P : Program) (t : TypeId) (k1 k2 : IntKind) (f g : Field) : Prop where
  und : P.underlying t = some (.struct (P.fieldsOf t))
  plain : P.stoodInHeld t = false
  guard : P.eqGuardType P.depth t = false
  flds : (P.fieldsOf t).toList = [f, g]
  nf : (f.name == "_") = false
  ng : (g.name == "_") = false
  sf : P.underlying f.type = some (.int k1)
  sg : P.underlying g.type = some (.int k2)
  pf : ∀ (s : Int) (v : Value) (w : World), (part f.type #[.int k1 s, v] f.offset).run P w = .ok (.int k1 s) w
  pg : ∀ (u : Value) (z : Int) (w : World), (part g.type #[u, .int k2 z] g.offset).run P w = .ok (.int k2 z) w
section
variable {P : Program} {nid : Nat} {o : Oper} {ρ : Operand → AV} {h : Heap}
theorem TwoI.run {t : TypeId} {k1 k2 : IntKind} {f g : Field} (T : TwoI P t k1 k2 f g) (a b m n : Int) (w : World) :
    (Op.equalIn 10000 t (.agg #[.int k1 a, .int k2 m]) (.agg #[.int k1 b, .int k2 n])).run P w = .ok (decide (a = b ∧ m = n)) w := by
  have e1 : (f.name ≠ "_") := by have := T.nf; simpa using this
  have e2 : (g.name ≠ "_") := by have := T.ng; simpa using this
  rw [run_equalIn_struct w 9999 t _ _ T.und T.plain, T.flds]
  simp only [Op.eqFields, if_pos e1, if_pos e2, Sem.run_bind, T.pf, Result.andThen_ok, run_equalIn_int _ _ _ k1 _ _ _ T.sf]
  by_cases h1 : a = b
  · by_cases h2 : m = n
    · simp [h1, h2, T.pg, run_equalIn_int _ _ _ k2 _ _ _ T.sg, Result.andThen]
    · simp [h1, h2, T.pg, run_equalIn_int _ _ _ k2 _ _ _ T.sg, Result.andThen]
  · simp [h1]
theorem Valid.seqI {t t' : TypeId} {x y : Operand} {k1 k2 : IntKind} {f g : Field} {a b m n : Int} (T : TwoI P t k1 k2 f g) (ho : o.op = .binOp .eql t x y t') (hx : ρ x = Agg [Is (.int k1 a), Is (.int k2 m)]) (hy : ρ y = Agg [Is (.int k1 b), Is (.int k2 n)]) :
    Valid P nid o ρ h ⟨Is (.bool (decide (a = b ∧ m = n))), [], []⟩ :=
  .quiet _ (nosup rfl) fun σ κ ac hops => by
    have h1 := hops x (by rw [ho]; simp [Op.operands])
    have h2 := hops y (by rw [ho]; simp [Op.operands])
    rw [hx] at h1; rw [hy] at h2
    refine ⟨_, ?_, rfl⟩
    unfold execOp
    rw [ho]
    simp only [agg2 h1, agg2 h2, run_eqGuard_agg _ _ _ _ _ _ _ T.guard, run_eql_struct, T.run, Sem.run_bind, Sem.run_pure, Result.andThen_ok]
theorem Valid.sneI {t t' : TypeId} {x y : Operand} {k1 k2 : IntKind} {f g : Field} {a b m n : Int} (T : TwoI P t k1 k2 f g) (ho : o.op = .binOp .neq t x y t') (hx : ρ x = Agg [Is (.int k1 a), Is (.int k2 m)]) (hy : ρ y = Agg [Is (.int k1 b), Is (.int k2 n)]) :
    Valid P nid o ρ h ⟨Is (.bool (!decide (a = b ∧ m = n))), [], []⟩ :=
  .quiet _ (nosup rfl) fun σ κ ac hops => by
    have h1 := hops x (by rw [ho]; simp [Op.operands])
    have h2 := hops y (by rw [ho]; simp [Op.operands])
    rw [hx] at h1; rw [hy] at h2
    refine ⟨_, ?_, rfl⟩
    unfold execOp
    rw [ho]
    simp only [agg2 h1, agg2 h2, run_eqGuard_agg _ _ _ _ _ _ _ T.guard, run_neq_struct, T.run, Sem.run_bind, Sem.run_pure, Result.andThen_ok]
end
section
variable {P : Program} {nid : Nat} {o : Oper} {ρ : Operand → AV} {h : Heap}
theorem Valid.litS4 {t el : TypeId} {x y z u : Operand} {n0 n1 n2 n3 : Nat} {xs0 xs1 xs2 xs3 : List Value} (X : Nat → List Int) (ho : o.op = .buildSlice t 4 #[(0, x), (1, y), (2, z), (3, u)])
    (hx : Reads (ρ x) 1 n0 xs0) (hy : Reads (ρ y) 1 n1 xs1) (hz : Reads (ρ z) 1 n2 xs2) (hu : Reads (ρ u) 1 n3 xs3) (e0 : n0 = (X 0).length) (e0' : xs0 = (X 0).map I64) (e1 : n1 = (X 1).length) (e1' : xs1 = (X 1).map I64) (e2 : n2 = (X 2).length) (e2' : xs2 = (X 2).map I64) (e3 : n3 = (X 3).length) (e3' : xs3 = (X 3).map I64)
    (hrun : ∀ (a b c d : Option Addr) (n1 n2 n3 n4 c1 c2 c3 c4 : Nat) (w : World), (Instr.buildSlice t 4 #[(0, .slice a n1 c1), (1, .slice b n2 c2), (2, .slice c n3 c3), (3, .slice d n4 c4)]).run P w = .ok (.slice (some ⟨w.heap.size, 0, none⟩) 4 4) (w.alloc (.cells #[.slice a n1 c1, .slice b n2 c2, .slice c n3 c3, .slice d n4 c4] el))) :
    Valid P nid o ρ h ⟨SlS 4 X, [], []⟩ :=
  .fresh _ rfl fun σ κ a hops => by
    subst e0 e0' e1 e1' e2 e2' e3 e3'
    have h0 := hx σ κ _ (hops x (by rw [ho]; simp [Op.operands]))
    have h1 := hy σ κ _ (hops y (by rw [ho]; simp [Op.operands]))
    have h2 := hz σ κ _ (hops z (by rw [ho]; simp [Op.operands]))
    have h3 := hu σ κ _ (hops u (by rw [ho]; simp [Op.operands]))
    obtain ⟨b0, c0, u0⟩ := h0.form
    obtain ⟨b1, c1, u1⟩ := h1.form
    obtain ⟨b2, c2, u2⟩ := h2.form
    obtain ⟨b3, c3, u3⟩ := h3.form
    have hr := hrun b0 b1 b2 b3 (X 0).length (X 1).length (X 2).length (X 3).length c0 c1 c2 c3 κ.w
    rw [← u0, ← u1, ← u2, ← u3] at hr
    let cs : List Value := [a.eval x, a.eval y, a.eval z, a.eval u]
    refine ⟨_, κ.new (.cells cs.toArray el) none, ?_, κ.new_le _ _, fun b hb => κ.new_old _ _ b hb, cs, ⟨rfl, .inr ⟨⟨κ.w.heap.size, 0, none⟩, 4, rfl, Nat.le_refl _, by decide, rd_new κ cs el⟩⟩, fun j v hj => ?_⟩
    · unfold execOp
      rw [ho]
      have : (#[((0 : Nat), x), (1, y), (2, z), (3, u)].map fun q => (q.1, a.eval q.2)) = #[(0, a.eval x), (1, a.eval y), (2, a.eval z), (3, a.eval u)] := by simp
      simp only [this, hr, Sem.run_bind, Result.andThen_ok, Sem.run_pure]
      rfl
    · have hle := κ.new_le (.cells cs.toArray el) none
      have hlt : j < 4 := (List.getElem?_eq_some_iff.1 hj).1
      match j, hlt, hj with
      | 0, _, hj => cases hj; exact h0.mono hle
      | 1, _, hj => cases hj; exact h1.mono hle
      | 2, _, hj => cases hj; exact h2.mono hle
      | 3, _, hj => cases hj; exact h3.mono hle
end
/-- what was written, and is only read from here on -/
theorem Ent.freezeBuf {st : St} (k id n : Nat) {el : TypeId} {vals : List Value} (hk : st.env k = Buf id n) (hh : st.heap id = some (.buf el vals)) (hl : vals.length = n) : Ent st ⟨upd st.env k (Sl 1 n vals), upd st.heap id none, st.cnt⟩ := by
  intro X a w ⟨hc1, σ, κ, hw, h⟩
  have h1 := h.env_ k
  rw [hk] at h1
  obtain ⟨hu, b1, c1, hu1, hc2⟩ := h1
  have h2 := h.hr.at_ id _ hh
  obtain ⟨b, tl, fr, c, hσ, hheap, _, hcl, hcm, hown⟩ := h2
  have hblk : blk (σ id) = some b := by rw [hσ]; rfl
  let κ' : Kw := ⟨κ.w, fun g => if g = b then none else κ.own g, fun g m hg => by
    split at hg
    · cases hg
    · exact κ.lt g m hg⟩
  have hle : κ.le κ' := { os := rfl, tape := rfl, output := rfl, size := Nat.le_refl _, still := fun g hg ho => ⟨by simp [κ', ho], rfl⟩, grow := fun g m hm => ⟨fun k' hk' => by
    have hk' : (if g = b then none else κ.own g) = some k' := hk'
    split at hk'
    · cases hk'
    · rw [hm] at hk'; cases hk'; exact Nat.le_refl _, fun j u _ hu => hu⟩ }
  have hno : ∀ i, i ≠ id → ∀ c, upd st.heap id none i = some c → st.heap i = some c := fun i hi c hc => by rwa [upd_other _ _ _ _ hi] at hc
  have hne : ∀ i c, upd st.heap id none i = some c → i ≠ id := fun i c hc e => by rw [e, upd_same] at hc; cases hc
  have hnn : ∀ i, upd st.heap id none i ≠ none → i ≠ id ∧ st.heap i ≠ none := fun i hi => by
    have : i ≠ id := fun e => hi (by rw [e, upd_same])
    exact ⟨this, by rwa [upd_other _ _ _ _ this] at hi⟩
  refine ⟨hc1, σ, κ', hw, { tmps := h.tmps, prot := (by
      obtain ⟨D, ms, hp⟩ := h.prot
      have hb := hp.far id _ b hh hblk
      refine ⟨D, ms, hp.to hle (fun g hg => ⟨?_, rfl⟩) (fun g hg => ⟨?_, rfl⟩) (fun i c g hc hg => hp.far i c g (hno i (hne i c hc) c hc) hg) (fun I k e => ?_)⟩
      · have : g ≠ b := fun e => hb.1 (e ▸ hg)
        simp [κ', this]
      · have : g ≠ b := fun e => hb.2 (e ▸ hg)
        simp [κ', this]
      · by_cases e0 : 0 = id
        · subst e0; simp [idxOf, upd_same] at e
        · rw [← e]; exact (idxOf_congr (upd_other _ _ _ _ e0)).symm), base := h.base, pin := h.pin, env_ := fun t => ?_, le0 := Kw.le_trans h.le0 hle, old := fun g hg => ?_, hr := ⟨fun i c hc => ?_, fun i j g hij hi hj => ?_, fun i c g hc => ?_⟩, sup := fun t s hs => ?_, hsup := fun i c hc => ?_ }⟩
  · by_cases e : t = k
    · subst e
      simp only [upd_same]
      rw [hu, hσ, hl]
      refine ⟨by omega, .inr ⟨⟨b, 0, none⟩, c, rfl, by omega, hcm, fun j u hj => ⟨rfl, ?_, fun m hm => ?_⟩⟩⟩
      · show World.cell? κ.w ⟨b, 0 + j, none⟩ = some u
        have hjl := (List.getElem?_eq_some_iff.1 hj).1
        rw [Nat.zero_add, cell_of_row _ _ _ _ _ _ hheap, List.getElem?_toArray, List.getElem?_append_left hjl]
        exact hj
      · have hm : (if b = b then none else κ.own b) = some m := hm
        simp at hm
    · simp only [upd_other _ _ _ _ e]
      exact (st.env t).mono hle (h.env_ t)
  · have hi := hne i c hc
    have hc' := hno i hi c hc
    refine Chunk.keep hle (fun g hg => ⟨rfl, ?_⟩) (h.hr.at_ i c hc')
    have hgb : g ≠ b := fun e => h.hr.far i id g hi (by rw [hc']; exact fun x => by cases x) (by rw [hh]; exact fun x => by cases x) hg (by rw [hblk, e])
    simp [κ', hgb]
  · exact h.hr.far i j g hij (hnn i hi).2 (hnn j hj).2
  · exact h.hr.base i c g (hno i (hne i c hc) c hc)
  · have hgb : g ≠ b := fun e => h.hr.base id _ b hh hblk (e ▸ hg)
    have := h.old g hg
    exact ⟨by simp [κ', hgb, this.1], this.2⟩
  · by_cases e : t = k
    · subst e
      simp only [upd_same] at hs
      cases hs
    · simp only [upd_other _ _ _ _ e] at hs
      exact h.sup t s hs
  · exact h.hsup i c (hno i (hne i c hc) c hc)
end Ab
end Go.Proofs.Ytnomocicogbdpaa
