/-
  The framework of these walks, several texts in one.
-/
import Derived.Test.YtdcenocljnlipaaMgb
import Derived.DefersIn
import Derived.Recover
import Derived.RecoverIn
import Derived.Test.YtdcenocljnlipaaMga
namespace Go.Proofs.Ytdcenocljnlipaa
open Go.RowKit
namespace Ab
section
variable {P : Program} {nid : Nat} {o : Oper} {ρ : Operand → AV} {h : Heap}
theorem Valid.newbuf {el : TypeId} {l : List Value}
    (hrun : ∀ σ (κ : Kw) (a : Act), (∀ x ∈ o.op.operands, (ρ x).p σ κ (a.eval x)) → ∃ c κ', (execOp a.eval o).run P κ.w = .ok (.value (.slice (some ⟨κ.w.heap.size, 0, none⟩) l.length c)) κ'.w ∧ κ.le κ' ∧ (Chunk.buf el l).at σ κ' (.slice (some ⟨κ.w.heap.size, 0, none⟩) l.length c) ∧ (∀ b, b < κ.w.heap.size → κ'.own b = κ.own b ∧ κ'.w.heap[b]? = κ.w.heap[b]?) ∧ l.length ≤ c) :
    Valid P nid o ρ h ⟨Buf (8 * nid) l.length, [], [(8 * nid, some (.buf el l))]⟩ where
  run := fun base σ κ h' a next Q hops hrd hr hbase _ hfr hk => by
    have hid8 : 8 * nid / 8 = nid := by omega
    obtain ⟨c, κ', hrun', hle, hc, hold, hlc⟩ := hrun σ κ a hops
    unfold Oper.wp
    rw [hrun']
    refine hk _ (upd σ (8 * nid) (.slice (some ⟨κ.w.heap.size, 0, none⟩) l.length c)) κ' hle (fun b hb' => hold b (hbase b hb')) (fun i hi => upd_other _ _ _ _ (fun e => hi (by omega))) ⟨(upd_same _ _ _).symm, _, c, rfl, hlc⟩ ?_
    refine hr.set hle (8 * nid) _ (.buf el l) (fun _ => false) (fun i d hd hi _ g hg => ?_) hc (fun i g hi hi8 _ hg he => ?_) (fun g hg => ?_) (fun i d hd _ _ j hj => upd_other _ _ _ _ (fun e => (hfr i d hd).2 j hj (by omega))) _ (upd_same _ _ _) (fun i hi _ => upd_other _ _ _ _ hi) (fun i _ hf => by cases hf)
    · have := hold g (blk_lt hr hd hg)
      exact ⟨this.2, this.1⟩
    · cases hd : h' i with
      | none => exact hi hd
      | some d =>
        have he' : κ.w.heap.size = g := Option.some.inj he
        have := blk_lt hr hd hg; omega
    · have hg' : κ.w.heap.size = g := Option.some.inj hg
      intro hbg; have := hbase _ hbg; omega
  sup := fun U _ _ => ⟨fun s hs => .inr (by have : s ∈ [8 * nid] := hs; simp at this; omega), fun i c hc s hs => by
    simp only [List.mem_singleton, Prod.mk.injEq, Option.some.injEq] at hc
    obtain ⟨_, rfl⟩ := hc
    cases hs⟩
  wr := fun x hx => by simp at hx; subst hx; exact .inr (by simp)
theorem Valid.growbuf {id : Nat} {el : TypeId} {xs l : List Value} (hh : h id = some (.buf el xs)) 
    (hrun : ∀ σ (κ : Kw) (a : Act), (∀ x ∈ o.op.operands, (ρ x).p σ κ (a.eval x)) → (Chunk.buf el xs).at σ κ (σ id) → ∃ b c κ', (execOp a.eval o).run P κ.w = .ok (.value (.slice (some ⟨b, 0, none⟩) l.length c)) κ'.w ∧ κ.le κ' ∧ (Chunk.buf el l).at σ κ' (.slice (some ⟨b, 0, none⟩) l.length c) ∧ (∀ g, g < κ.w.heap.size → blk (σ id) ≠ some g → κ'.own g = κ.own g ∧ κ'.w.heap[g]? = κ.w.heap[g]?) ∧ (blk (σ id) = some b ∨ b = κ.w.heap.size) ∧ l.length ≤ c) :
    Valid P nid o ρ h ⟨Buf (8 * nid) l.length, [id], [(id, none), (8 * nid, some (.buf el l))]⟩ where
  run := fun base σ κ h' a next Q hops hrd hr hbase _ hfr hk => by
    have hid : h' id = some (.buf el xs) := by rw [hrd id (by simp), hh]
    have hid8 : 8 * nid / 8 = nid := by omega
    have hne : id ≠ 8 * nid := fun e => (hfr id _ hid).1 (by rw [e]; exact hid8)
    obtain ⟨b, c, κ', hrun', hle, hc, hold, hb, hlc⟩ := hrun σ κ a hops (hr.at_ id _ hid)
    unfold Oper.wp
    rw [hrun']
    refine hk _ (upd σ (8 * nid) (.slice (some ⟨b, 0, none⟩) l.length c)) κ' hle (fun g hb' => hold g (hbase g hb') (fun e => ?_)) (fun i hi => upd_other _ _ _ _ (fun e => hi (by omega))) ⟨(upd_same _ _ _).symm, _, c, rfl, hlc⟩ ?_
    · exact hr.base id _ g hid e hb'
    · refine hr.set hle (8 * nid) _ (.buf el l) (fun i => Nat.beq i id) (fun i d hd hi hgone g hg => ?_) hc (fun i g hi hi8 hgone hg he => ?_) (fun g hg => ?_) (fun i d hd _ _ j hj => upd_other _ _ _ _ (fun e => (hfr i d hd).2 j hj (by omega))) _ ?_ ?_ ?_
      · have hiid : i ≠ id := fun e => by subst e; simp at hgone
        have := hold g (blk_lt hr hd hg) (fun e => hr.far i id g hiid (by rw [hd]; simp) (by rw [hid]; simp) hg e)
        exact ⟨this.2, this.1⟩
      · have hiid : i ≠ id := fun e => by subst e; simp at hgone
        cases hd : h' i with
        | none => exact hi hd
        | some d =>
          have he' : b = g := Option.some.inj he
          subst he'
          rcases hb with h2 | h2
          · exact hr.far i id _ hiid hi (by rw [hid]; simp) hg h2
          · have := blk_lt hr hd hg; omega
      · have hg' : b = g := Option.some.inj hg
        subst hg'
        rcases hb with h2 | h2
        · exact hr.base id _ _ hid h2
        · intro hbg; have := hbase _ hbg; omega
      · simp only [updl]; exact upd_same _ _ _
      · intro i hi hgone
        have hiid : i ≠ id := fun e => by subst e; simp at hgone
        simp only [updl]
        rw [upd_other _ _ _ _ hi, upd_other _ _ _ _ hiid]
      · intro i hi hgone
        have hiid : i = id := Nat.eq_of_beq_eq_true hgone
        subst hiid
        simp only [updl]
        rw [upd_other _ _ _ _ hi, upd_same]
  sup := fun U _ _ => ⟨fun s hs => .inr (by have : s ∈ [8 * nid] := hs; simp at this; omega), fun i c hc s hs => by
    simp only [List.mem_cons, Prod.mk.injEq, List.not_mem_nil, or_false] at hc
    rcases hc with ⟨_, hc⟩ | ⟨_, hc⟩
    · cases hc
    · cases hc; cases hs⟩
  wr := fun x hx => by
    simp only [List.mem_cons, List.not_mem_nil, or_false] at hx
    rcases hx with rfl | rfl
    · exact .inl ⟨by simp, by rw [hh]; simp⟩
    · exact .inr (by simp)
theorem Kw.drew_new_le (κ : Kw) (ob : Obj) (k : Option Nat) : κ.le ((⟨κ.w.drew, κ.own, κ.lt⟩ : Kw).new ob k) := Kw.le_trans κ.drew_le (Kw.new_le _ _ _)
theorem zc_len (c : Array Value) (n : Nat) : (Builtin.zeroCells c n).toList.length = n * c.size := by rw [Array.length_toList, size_zeroCells]
/-- 'append' onto nil, of something: a row that may be written -/
theorem Valid.appendnilB {x y : Operand} {t el : TypeId} {i : TypeInfo} {z : Value} {m bytes : Nat} {ys : List Value} (ho : o.op = .call { callee := .builtin .append, args := #[x, y], argTypes := #[t, t] })
    (ht : P.underlying t = some (.slice el)) (hi : P.info? el = some i) (hz : i.zero = some z) (hsize : i.size = 1) (hby : i.bytes = bytes) (hzs : z.cells.size = 1)
    (hx : ρ x = Is (.slice none 0 0)) (hy : Reads (ρ y) 1 m ys) (h0 : 0 < m) (hm : m ≤ maxLen) (hb : m * bytes ≤ 140737488355328) :
    Valid P nid o ρ h ⟨Buf (8 * nid) ys.length, [], [(8 * nid, some (.buf el ys))]⟩ :=
  .newbuf fun σ κ a hops => by
    have e1 := hops x (by rw [ho]; simp [Op.operands, Call.operands])
    have e2 := hy σ κ _ (hops y (by rw [ho]; simp [Op.operands, Call.operands]))
    rw [hx] at e1
    have e1 : a.eval x = .slice none 0 0 := e1
    obtain ⟨hul, ⟨_, h3⟩ | ⟨ad, c, hu, hc1, hc2, hrd⟩⟩ := e2
    · omega
    have hnews : ∀ j y, ys[j]? = some y → κ.w.cell? (ad.add j) = some y := fun j y hj => by
      obtain ⟨s1, s2, _⟩ := hrd j y hj
      rw [add_eq s1]; exact s2
    have hr := run_append_nil (P := P) κ.w t o.type el i z ht hi hz ad m c ys (by rw [hsize]; exact hul) hnews (by omega) (by unfold maxLen at hm; omega) (by rw [hby]; omega)
    have hge := grownCap_ge κ.w m 0 el
    have hcap := grownCap_le_maxLen κ.w m 0 el hm
    have hlen : ys.length = m := by omega
    have harr : ys.toArray ++ Builtin.zeroCells z.cells (grownCap κ.w m 0 el - m) = (ys ++ (Builtin.zeroCells z.cells (grownCap κ.w m 0 el - m)).toList).toArray := by apply Array.ext'; simp
    have hat := Kw.new_at (⟨κ.w.drew, κ.own, κ.lt⟩ : Kw) (.cells (ys.toArray ++ Builtin.zeroCells z.cells (grownCap κ.w m 0 el - m)) el) (some 0)
    refine ⟨grownCap κ.w m 0 el, (⟨κ.w.drew, κ.own, κ.lt⟩ : Kw).new (.cells (ys.toArray ++ Builtin.zeroCells z.cells (grownCap κ.w m 0 el - m)) el) (some 0), ?_, Kw.drew_new_le _ _ _, ⟨κ.w.heap.size, (Builtin.zeroCells z.cells (grownCap κ.w m 0 el - m)).toList, (0, 0), grownCap κ.w m 0 el, rfl, ?_, fun j _ hf => by omega, ?_, hcap, hat.2⟩, fun b hb => Kw.new_old (⟨κ.w.drew, κ.own, κ.lt⟩ : Kw) _ _ b hb, by omega⟩
    · unfold execOp
      rw [ho]
      rw [← hlen] at hr ⊢
      simp only [resolve, invoke, builtin, Sem.run_bind, Sem.run_pure, Result.andThen_ok, List.map_toArray, List.map_cons, List.map_nil, e1, hu]
      rw [hlen] at hr ⊢
      simp only [hr, Result.andThen_ok]
      rfl
    · rw [← harr]; exact hat.1
    · rw [zc_len, hzs]; omega
theorem run_append_room_fr (w : World) (t ty e : TypeId) (i : TypeInfo) (ht : P.underlying t = some (.slice e)) (hi : P.info? e = some i)
    (b sLen sCap : Nat) (a : Addr) (m c : Nat) (news : List Value) (hl : news.length = m * i.size) (hnews : ∀ j u, news[j]? = some u → w.cell? (a.add j) = some u) (h1 : ∀ u ∈ news, u.oneCell' = true)
    (cur : Array Value) (t0 : TypeId) (fr : Nat × Nat) (hg : w.heap[b]? = some (.cells cur t0 fr)) (hroom : sLen + m ≤ sCap) (hf : ∀ j, sLen * i.size ≤ j → j < sLen * i.size + news.length → ¬ (fr.1 ≤ j ∧ j < fr.2)) (hfit : sLen * i.size + news.length ≤ cur.size) :
    (Builtin.append_ #[t, t] ty #[.slice (some ⟨b, 0, none⟩) sLen sCap, .slice (some a) m c]).run P w = .ok (.slice (some ⟨b, 0, none⟩) (sLen + m) sCap) (w.setRow b (cur.toList.take (sLen * i.size) ++ news ++ cur.toList.drop (sLen * i.size + news.length)).toArray) := by
  have hfc := run_firstCells_some (P := P) w i.size m a m c news hl hnews
  have hst := storeCells_fr (P := P) b (sLen * i.size) t0 fr news 0 cur w hg (by simpa using hf) (by simpa using hfit) h1
  simp only [Nat.add_zero] at hst
  have hadd : (⟨b, 0, none⟩ : Addr).add (sLen * i.size) = ⟨b, sLen * i.size, none⟩ := by unfold Addr.add; split <;> simp_all
  simp [Builtin.append_, run_underlying ht, sizeOf, typeInfo, hi, Builtin.lenOf, hroom, hfc, hadd, hst]
/-- 'append' onto such a row -/
theorem Valid.appendB {x y : Operand} {t el : TypeId} {i : TypeInfo} {z : Value} {id n m bytes : Nat} {xs ys : List Value} (ho : o.op = .call { callee := .builtin .append, args := #[x, y], argTypes := #[t, t] })
    (ht : P.underlying t = some (.slice el)) (hi : P.info? el = some i) (hz : i.zero = some z) (hsize : i.size = 1) (hby : i.bytes = bytes) (hzs : z.cells.size = 1)
    (hx : ρ x = Buf id n) (hh : h id = some (.buf el xs)) (hy : Reads (ρ y) 1 m ys) (h1 : ∀ u ∈ ys, u.oneCell' = true) (h0 : 0 < m) (hm : xs.length + m ≤ maxLen) (hb : (xs.length + m) * bytes ≤ 140737488355328) :
    Valid P nid o ρ h ⟨Buf (8 * nid) (xs ++ ys).length, [id], [(id, none), (8 * nid, some (.buf el (xs ++ ys)))]⟩ :=
  .growbuf hh fun σ κ a hops hat => by
    have e1 := hops x (by rw [ho]; simp [Op.operands, Call.operands])
    have e2 := hy σ κ _ (hops y (by rw [ho]; simp [Op.operands, Call.operands]))
    rw [hx] at e1
    obtain ⟨e1, _⟩ := e1
    obtain ⟨g, tl, fr, cap, hσ, hheap, hfr, hcl, hcm, hown⟩ := hat
    rw [hσ] at e1
    obtain ⟨hul, ⟨_, h3⟩ | ⟨ad, c, hu, hc1, hc2, hrd⟩⟩ := e2
    · omega
    have hlen : ys.length = m := by omega
    have hlen2 : (xs ++ ys).length = xs.length + m := by rw [List.length_append, hlen]
    have hnews : ∀ j y, ys[j]? = some y → κ.w.cell? (ad.add j) = some y := fun j y hj => by
      obtain ⟨s1, s2, _⟩ := hrd j y hj
      rw [add_eq s1]; exact s2
    have hblk : blk (σ id) = some g := by rw [hσ]; rfl
    have hm' : ((xs.length + m : Nat) : Int) ≤ 9223372036854775807 := by unfold maxLen at hm; omega
    rw [hlen2]
    by_cases hroom : xs.length + m ≤ cap
    · have hr := run_append_room_fr (P := P) κ.w t o.type el i ht hi g xs.length cap ad m c ys (by rw [hsize]; exact hul) hnews h1 (xs ++ tl).toArray el fr hheap hroom (fun j h6 h7 => hfr j (by rw [hsize] at h7; omega)) (by rw [hsize]; simp; omega)
      have ecut : (xs ++ tl).take xs.length ++ ys ++ (xs ++ tl).drop (xs.length + ys.length) = xs ++ ys ++ tl.drop m := by
        rw [List.take_left, List.drop_append, List.drop_of_length_le (by omega), List.nil_append, show xs.length + ys.length - xs.length = m by omega]
      rw [hsize, Nat.mul_one, show (xs ++ tl).toArray.toList = xs ++ tl from rfl, ecut] at hr
      let κ' : Kw := ⟨κ.w.setRow g (xs ++ ys ++ tl.drop m).toArray, κ.own, fun b k hb => by rw [size_setRow]; exact κ.lt b k hb⟩
      have hle : κ.le κ' := ⟨rfl, rfl, rfl, by show κ.w.heap.size ≤ _; rw [size_setRow]; exact Nat.le_refl _,
        fun b _ hb => ⟨hb, setRow_other _ _ _ _ (fun e => by subst e; rw [hown] at hb; cases hb)⟩,
        fun b k hb => ⟨fun k' hk' => by have : κ.own b = some k' := hk'; rw [hb] at this; cases this; exact Nat.le_refl _, fun j u hj hu => by
          have hgb : b ≠ g := fun e => by subst e; rw [hown] at hb; cases hb; omega
          simp only [World.cell?] at hu ⊢
          rw [show κ'.w.heap[b]? = κ.w.heap[b]? from setRow_other _ _ _ _ hgb]
          exact hu⟩⟩
      refine ⟨g, cap, κ', ?_, hle, ⟨g, tl.drop m, fr, cap, by rw [hlen2], setRow_heap _ _ _ _ _ _ hheap, hfr, ?_, hcm, hown⟩, fun b _ hne => ?_, .inl hblk, hroom⟩
      · unfold execOp
        rw [ho]
        simp only [resolve, invoke, builtin, Sem.run_bind, Sem.run_pure, Result.andThen_ok, List.map_toArray, List.map_cons, List.map_nil, e1, hu, hr]
        rfl
      · rw [hlen2, List.length_drop]; omega
      · have hbg : b ≠ g := fun e => hne (by rw [hblk, e])
        exact ⟨rfl, setRow_other _ _ _ _ hbg⟩
    · have holds : ∀ j u, xs[j]? = some u → κ.w.cell? ((⟨g, 0, none⟩ : Addr).add j) = some u := fun j u hj => by
        have e : (⟨g, 0, none⟩ : Addr).add j = ⟨g, j, none⟩ := by unfold Addr.add; split <;> simp_all
        have hjl := (List.getElem?_eq_some_iff.1 hj).1
        rw [e, cell_of_row _ _ _ _ _ _ hheap, List.getElem?_toArray, List.getElem?_append_left hjl]
        exact hj
      have hr := run_append_grow (P := P) κ.w t o.type el i z ht hi hz ⟨g, 0, none⟩ xs.length cap xs (by rw [hsize]; omega) holds ad m c ys (by rw [hsize]; exact hul) hnews (by omega) hm' (growslice_fits (by omega) (by rw [hby]; exact hb))
      have hge := grownCap_ge κ.w (xs.length + m) cap el
      have hcap := grownCap_le_maxLen κ.w (xs.length + m) cap el hm
      have hat := Kw.new_at (⟨κ.w.drew, κ.own, κ.lt⟩ : Kw) (.cells (xs.toArray ++ ys.toArray ++ Builtin.zeroCells z.cells (grownCap κ.w (xs.length + m) cap el - (xs.length + m))) el) (some 0)
      have harr : xs.toArray ++ ys.toArray ++ Builtin.zeroCells z.cells (grownCap κ.w (xs.length + m) cap el - (xs.length + m)) = (xs ++ ys ++ (Builtin.zeroCells z.cells (grownCap κ.w (xs.length + m) cap el - (xs.length + m))).toList).toArray := by apply Array.ext'; simp
      refine ⟨κ.w.heap.size, grownCap κ.w (xs.length + m) cap el, _, ?_, Kw.drew_new_le _ _ _, ⟨κ.w.heap.size, (Builtin.zeroCells z.cells (grownCap κ.w (xs.length + m) cap el - (xs.length + m))).toList, (0, 0), _, by rw [hlen2], by rw [← harr]; exact hat.1, fun j _ hf => by omega, ?_, hcap, hat.2⟩, fun b hb _ => Kw.new_old (⟨κ.w.drew, κ.own, κ.lt⟩ : Kw) _ _ b hb, .inr rfl, by omega⟩
      · unfold execOp
        rw [ho]
        simp only [resolve, invoke, builtin, Sem.run_bind, Sem.run_pure, Result.andThen_ok, List.map_toArray, List.map_cons, List.map_nil, e1, hu, hr]
        rfl
      · rw [hlen2, zc_len, hzs]; omega
/-- one more -/
theorem Valid.appendB1 {G : Type} {f : G → Value} {x y : Operand} {t el : TypeId} {i : TypeInfo} {z : Value} {id n bytes : Nat} {l : List G} {v : G} (ho : o.op = .call { callee := .builtin .append, args := #[x, y], argTypes := #[t, t] })
    (ht : P.underlying t = some (.slice el)) (hi : P.info? el = some i) (hz : i.zero = some z) (hsize : i.size = 1) (hby : i.bytes = bytes) (hzs : z.cells.size = 1)
    (hx : ρ x = Buf id n) (hh : h id = some (.buf el (l.map f))) (hy : Reads (ρ y) 1 1 [f v]) (h1 : (f v).oneCell' = true) (hm : l.length + 1 ≤ maxLen) (hb : (l.length + 1) * bytes ≤ 140737488355328) :
    Valid P nid o ρ h ⟨Buf (8 * nid) (l ++ [v]).length, [id], [(id, none), (8 * nid, some (.buf el ((l ++ [v]).map f)))]⟩ := by
  have hv := Valid.appendB (P := P) (nid := nid) ho ht hi hz hsize hby hzs hx hh hy (fun u hu => by simp at hu; subst hu; exact h1) (by omega) (by simpa using hm) (by simpa using hb)
  have e1 : l.map f ++ [f v] = (l ++ [v]).map f := by simp
  have e2 : (l.map f ++ [f v]).length = (l ++ [v]).length := by simp
  rw [e2, e1] at hv
  exact hv
theorem Valid.appnilB {G : Type} {f : G → Value} {l : List G} {x y : Operand} {t el : TypeId} {m bytes : Nat} (ho : o.op = .call { callee := .builtin .append, args := #[x, y], argTypes := #[t, t] })
    (ht : P.underlying t = some (.slice el)) (hi : TI P el 1 bytes) (hx : ρ x = Is (.slice none 0 0)) (hy : Reads (ρ y) 1 m (l.map f)) (h0 : 0 < m) (hm : m ≤ maxLen) (hb : m * bytes ≤ 140737488355328) :
    Valid P nid o ρ h ⟨Buf (8 * nid) l.length, [], [(8 * nid, some (.buf el (l.map f)))]⟩ := by
  obtain ⟨i, z, h2, h3, h4, h5, h6⟩ := hi
  have hv := Valid.appendnilB (P := P) (nid := nid) (h := h) ho ht h2 h3 h4 h5 h6 hx hy h0 hm hb
  rwa [List.length_map] at hv
theorem Valid.appB {G : Type} {f : G → Value} {x y : Operand} {t el : TypeId} {id n bytes : Nat} {l : List G} {v : G} (ho : o.op = .call { callee := .builtin .append, args := #[x, y], argTypes := #[t, t] })
    (ht : P.underlying t = some (.slice el)) (hi : TI P el 1 bytes) (hx : ρ x = Buf id n) (hh : h id = some (.buf el (l.map f))) (hy : Reads (ρ y) 1 1 [f v]) (h1 : (f v).oneCell' = true) (hm : l.length + 1 ≤ maxLen) (hb : (l.length + 1) * bytes ≤ 140737488355328) :
    Valid P nid o ρ h ⟨Buf (8 * nid) (l ++ [v]).length, [id], [(id, none), (8 * nid, some (.buf el ((l ++ [v]).map f)))]⟩ := by
  obtain ⟨i, z, h2, h3, h4, h5, h6⟩ := hi
  exact .appendB1 ho ht h2 h3 h4 h5 h6 hx hh hy h1 hm hb
/-- a literal that will be written -/
theorem Valid.litbuf {G : Type} (f : G → Value) (l : List G) {t el : TypeId} {n : Nat} {parts : Array (Nat × Operand)} (ho : o.op = .buildSlice t n parts)
    (hp : parts.toList.map (fun x => (x.1, ρ x.2)) = (pairs 0 (l.map f)).map (fun x => (x.1, Is x.2)))
    (hrun : ∀ w : World, (Instr.buildSlice t n (pairs 0 (l.map f)).toArray).run P w = .ok (.slice (some ⟨w.heap.size, 0, none⟩) n n) (w.alloc (.cells (l.map f).toArray el))) (hl : (l.map f).length = n) (hn : n ≤ maxLen) :
    Valid P nid o ρ h ⟨Buf (8 * nid) l.length, [], [(8 * nid, some (.buf el (l.map f)))]⟩ := by
  have hv : Valid P nid o ρ h ⟨Buf (8 * nid) (l.map f).length, [], [(8 * nid, some (.buf el (l.map f)))]⟩ := .newbuf fun σ κ a hops => by
    have hv : (parts.map fun x => (x.1, a.eval x.2)) = (pairs 0 (l.map f)).toArray := by
      apply Array.ext'
      rw [Array.toList_map]
      exact parts_known parts.toList _ (fun x hx => hops x.2 (by rw [ho]; simp [Op.operands]; exact ⟨x.1, by simpa using hx⟩)) hp
    have hat := κ.new_at (.cells (l.map f).toArray el) (some 0)
    refine ⟨n, κ.new (.cells (l.map f).toArray el) (some 0), ?_, κ.new_le _ _, ⟨κ.w.heap.size, [], (0, 0), n, rfl, by rw [List.append_nil]; exact hat.1, fun j _ hf => by omega, by rw [hl]; rfl, hn, hat.2⟩, fun b hb => κ.new_old _ _ b hb, by omega⟩
    unfold execOp
    rw [ho, hl]
    simp only [hv, hrun, Sem.run_bind, Result.andThen_ok, Sem.run_pure]
    rfl
  rwa [List.length_map] at hv
/-- what is lent to a call: cells that may turn, but not by it -/
def argsLend (ρ : Operand → AV) (id n : Nat) (xs : List Value) : List Operand → List AV → Prop
  | [], [] => True
  | x :: os, A :: l => ((∀ σ κ v, (ρ x).p σ κ v → A.p σ κ v) ∨ (ρ x = Buf id n ∧ A = Sl 1 xs.length xs)) ∧ argsLend ρ id n xs os l
  | _, _ => False
def Free (A : AV) : Prop := ∀ σ κ κ' v, A.p σ κ v → A.p σ κ' v
theorem Free.is {v : Value} : Free (Is v) := fun _ _ _ _ h => h
def Frees : List AV → Prop
  | [] => True
  | A :: l => Free A ∧ Frees l
theorem Frees.all2 {σ : Names} {κ κ' : Kw} : ∀ {l : List AV} {us : List Value}, Frees l → All2 σ κ l us → All2 σ κ' l us
  | [], [], _, _ => trivial
  | _ :: _, _ :: _, ⟨h1, h2⟩, ⟨h3, h4⟩ => ⟨h1 _ _ _ _ h3, h2.all2 h4⟩
  | [], _ :: _, _, h => h.elim
  | _ :: _, [], _, h => h.elim
theorem Free.tup {l : List AV} (h : Frees l) : Free (Tup l) := fun _ _ _ _ ⟨us, e, hu⟩ => ⟨us, e, h.all2 hu⟩
theorem Free.agg {l : List AV} (h : Frees l) : Free (Agg l) := fun _ _ _ _ ⟨us, e, hu⟩ => ⟨us, e, h.all2 hu⟩
theorem Valid.lend {f : FuncId} {os : Array Operand} {ts : Array TypeId} {avs : List AV} {A : AV} {id n : Nat} {t : TypeId} {xs : List Value} (hh : h id = some (.buf t xs)) (hn : n = xs.length) (ho : o.op = .call { callee := .value (.func f), args := os, argTypes := ts })
    (hc : FPure P f avs A) (ha : argsLend ρ id n xs os.toList avs) (hA : Free A) : Valid P nid o ρ h ⟨A, [id], []⟩ where
  run := fun base σ κ h' a next Q hops hrd hr hbase _ _ hk => by
    have hid : h' id = some (.buf t xs) := by rw [hrd id (by simp), hh]
    obtain ⟨b, tl, fr, c, hσ, hheap, hfr, hcl, hcm, hown⟩ := hr.at_ id _ hid
    have hblk : blk (σ id) = some b := by rw [hσ]; rfl
    have hbb : ¬ base b := hr.base id _ b hid hblk
    let κb : Kw := ⟨κ.w, fun g => if g = b then none else κ.own g, fun g m hg => by
      split at hg
      · cases hg
      · exact κ.lt g m hg⟩
    have hleb : κ.le κb := { os := rfl, tape := rfl, output := rfl, size := Nat.le_refl _, still := fun g hg ho => ⟨by simp [κb, ho], rfl⟩, grow := fun g m hm => ⟨fun k' hk' => by
      have hk' : (if g = b then none else κ.own g) = some k' := hk'
      split at hk'
      · cases hk'
      · rw [hm] at hk'; cases hk'; exact Nat.le_refl _, fun j u _ hu => hu⟩ }
    have hops' : ∀ x ∈ os.toList, (ρ x).p σ κ (a.eval x) := fun x hx => hops x (by rw [ho]; simp [Op.operands, Call.operands]; exact .inr (by simpa using hx))
    have hall : ∀ (os : List Operand) (avs : List AV), argsLend ρ id n xs os avs → (∀ x ∈ os, (ρ x).p σ κ (a.eval x)) → All2 σ κb avs (os.map a.eval) := by
      intro os
      induction os with
      | nil => intro avs ha _; cases avs with
        | nil => trivial
        | cons _ _ => exact ha.elim
      | cons x os ih =>
        intro avs ha hx
        cases avs with
        | nil => exact ha.elim
        | cons A avs =>
          refine ⟨?_, ih avs ha.2 (fun y hy => hx y (by simp [hy]))⟩
          have h1 := hx x (by simp)
          rcases ha.1 with h2 | ⟨h2, rfl⟩
          · exact A.mono hleb (h2 _ _ _ h1)
          · rw [h2] at h1
            obtain ⟨h1, b', c', hu, hc'⟩ := h1
            have hcn : c' = c := by rw [h1, hσ] at hu; cases hu; rfl
            subst hcn
            show SlP κb 1 xs.length xs (a.eval x)
            refine ⟨by omega, .inr ⟨⟨b, 0, none⟩, c', by rw [h1, hσ], by omega, hcm, fun j u hj => ⟨rfl, ?_, fun m hm => ?_⟩⟩⟩
            · show World.cell? κ.w ⟨b, 0 + j, none⟩ = some u
              have hjl := (List.getElem?_eq_some_iff.1 hj).1
              rw [Nat.zero_add, cell_of_row _ _ _ _ _ _ hheap, List.getElem?_toArray, List.getElem?_append_left hjl]
              exact hj
            · have hm : (if b = b then none else κ.own b) = some m := hm
              simp at hm
    have hcalls := hc.calls σ κb _ (hall os.toList avs ha hops')
    unfold Oper.wp execOp
    rw [ho]
    simp only [resolve, Act.eval, Deferred.ofValue, invoke, Sem.run_bind, Sem.run_pure, Result.andThen_ok]
    have e : Array.map a.eval os = (os.toList.map a.eval).toArray := by apply Array.ext'; simp
    have e2 : (fun x : Operand => match x with | Operand.tmp t => a.tmps.getD t undef | Operand.const v => v | Operand.global g => Value.pointer (some { block := g, off := 0 }) | Operand.func f => Value.func (Fn.func f) #[] #[]) = a.eval := by
      funext x; cases x <;> rfl
    simp only [e, Array.empty_append, Array.append_empty, hc.ent]
    simp only [Oper.upon]
    refine hcalls.mono ?_
    rintro e w' ⟨v, κ1, rfl, rfl, hle, hold, hAv⟩
    have hbs : b < κ.w.heap.size := κ.lt b 0 hown
    let κ' : Kw := ⟨κ1.w, fun g => if g = b then some 0 else κ1.own g, fun g m hg => by
      split at hg
      · rename_i e; rw [e]; exact Nat.lt_of_lt_of_le hbs hle.size
      · exact κ1.lt g m hg⟩
    have hold' : ∀ g, g < κ.w.heap.size → κ'.own g = κ.own g ∧ κ'.w.heap[g]? = κ.w.heap[g]? := fun g hg => by
      have := hold g hg
      refine ⟨?_, this.2⟩
      by_cases e : g = b
      · subst e; simp [κ', hown]
      · have h1 : κ1.own g = if g = b then none else κ.own g := this.1
        simp [κ', e, h1]
    have hle' : κ.le κ' := { os := hle.os, tape := hle.tape, output := hle.output, size := hle.size, still := fun g hg ho => ⟨(hold' g hg).1.trans ho, (hold' g hg).2⟩, grow := fun g m hm => ⟨fun k' hk' => by rw [(hold' g (κ.lt g m hm)).1, hm] at hk'; cases hk'; exact Nat.le_refl _, fun j u _ hu => by
        simp only [World.cell?] at hu ⊢
        rw [(hold' g (κ.lt g m hm)).2]; exact hu⟩ }
    exact hk v σ κ' hle' (fun g hg => hold' g (hbase g hg)) (fun _ _ => rfl) (hA _ _ _ _ hAv) (hr.grow hle' hold')
  sup := fun U _ _ => ⟨(fun s hs => by have : s ∈ A.sup := hs; rw [hc.sup] at this; cases this), fun i c hc => by cases hc⟩
  wr := fun x hx => by cases hx
end
/-! ### structs of two numbers, compared -/
structure TwoI (P : Program) (t : TypeId) (k1 k2 : IntKind) (f g : Field) : Prop where
  und : P.underlying t = some (.struct (P.fieldsOf t))
  plain : P.stoodInHeld t = false
  guard : P.eqGuardType P.depth t = false
  flds : (P.fieldsOf t).toList = [f, g]
  nf : (f.name == "_") = false
  ng : (g.name == "_") = false
  sf : P.underlying f.type = some (.int k1)
  sg : P.underlying g.type = some (.int k2)
  pf : ∀ (s : Int) (v : Value) (w : World), (part f.type #[.int k1 s, v] f.offset).run P w = .ok (.int k1 s) w
  pg : ∀ (u : Value) (z : Int) (w : World), (part g.type #[u, .int k2 z] g.offset).run P w = .ok (.int k2 z) w
section
variable {P : Program} {nid : Nat} {o : Oper} {ρ : Operand → AV} {h : Heap}
theorem TwoI.run {t : TypeId} {k1 k2 : IntKind} {f g : Field} (T : TwoI P t k1 k2 f g) (a b m n : Int) (w : World) :
    (Op.equalIn 10000 t (.agg #[.int k1 a, .int k2 m]) (.agg #[.int k1 b, .int k2 n])).run P w = .ok (decide (a = b ∧ m = n)) w := by
  have e1 : (f.name ≠ "_") := by have := T.nf; simpa using this
  have e2 : (g.name ≠ "_") := by have := T.ng; simpa using this
  rw [run_equalIn_struct w 9999 t _ _ T.und T.plain, T.flds]
  simp only [Op.eqFields, if_pos e1, if_pos e2, Sem.run_bind, T.pf, Result.andThen_ok, run_equalIn_int _ _ _ k1 _ _ _ T.sf]
  by_cases h1 : a = b
  · by_cases h2 : m = n
    · simp [h1, h2, T.pg, run_equalIn_int _ _ _ k2 _ _ _ T.sg, Result.andThen]
    · simp [h1, h2, T.pg, run_equalIn_int _ _ _ k2 _ _ _ T.sg, Result.andThen]
  · simp [h1]
theorem Valid.seqI {t t' : TypeId} {x y : Operand} {k1 k2 : IntKind} {f g : Field} {a b m n : Int} (T : TwoI P t k1 k2 f g) (ho : o.op = .binOp .eql t x y t') (hx : ρ x = Agg [Is (.int k1 a), Is (.int k2 m)]) (hy : ρ y = Agg [Is (.int k1 b), Is (.int k2 n)]) :
    Valid P nid o ρ h ⟨Is (.bool (decide (a = b ∧ m = n))), [], []⟩ :=
  .quiet _ (nosup rfl) fun σ κ ac hops => by
    have h1 := hops x (by rw [ho]; simp [Op.operands])
    have h2 := hops y (by rw [ho]; simp [Op.operands])
    rw [hx] at h1; rw [hy] at h2
    refine ⟨_, ?_, rfl⟩
    unfold execOp
    rw [ho]
    simp only [agg2 h1, agg2 h2, run_eqGuard_agg _ _ _ _ _ _ _ T.guard, run_eql_struct, T.run, Sem.run_bind, Sem.run_pure, Result.andThen_ok]
theorem Valid.sneI {t t' : TypeId} {x y : Operand} {k1 k2 : IntKind} {f g : Field} {a b m n : Int} (T : TwoI P t k1 k2 f g) (ho : o.op = .binOp .neq t x y t') (hx : ρ x = Agg [Is (.int k1 a), Is (.int k2 m)]) (hy : ρ y = Agg [Is (.int k1 b), Is (.int k2 n)]) :
    Valid P nid o ρ h ⟨Is (.bool (!decide (a = b ∧ m = n))), [], []⟩ :=
  .quiet _ (nosup rfl) fun σ κ ac hops => by
    have h1 := hops x (by rw [ho]; simp [Op.operands])
    have h2 := hops y (by rw [ho]; simp [Op.operands])
    rw [hx] at h1; rw [hy] at h2
    refine ⟨_, ?_, rfl⟩
    unfold execOp
    rw [ho]
    simp only [agg2 h1, agg2 h2, run_eqGuard_agg _ _ _ _ _ _ _ T.guard, run_neq_struct, T.run, Sem.run_bind, Sem.run_pure, Result.andThen_ok]
end
section
variable {P : Program} {nid : Nat} {o : Oper} {ρ : Operand → AV} {h : Heap}
theorem Valid.litS4 {t el : TypeId} {x y z u : Operand} {n0 n1 n2 n3 : Nat} {xs0 xs1 xs2 xs3 : List Value} (X : Nat → List Int) (ho : o.op = .buildSlice t 4 #[(0, x), (1, y), (2, z), (3, u)])
    (hx : Reads (ρ x) 1 n0 xs0) (hy : Reads (ρ y) 1 n1 xs1) (hz : Reads (ρ z) 1 n2 xs2) (hu : Reads (ρ u) 1 n3 xs3) (e0 : n0 = (X 0).length) (e0' : xs0 = (X 0).map I64) (e1 : n1 = (X 1).length) (e1' : xs1 = (X 1).map I64) (e2 : n2 = (X 2).length) (e2' : xs2 = (X 2).map I64) (e3 : n3 = (X 3).length) (e3' : xs3 = (X 3).map I64)
    (hrun : ∀ (a b c d : Option Addr) (n1 n2 n3 n4 c1 c2 c3 c4 : Nat) (w : World), (Instr.buildSlice t 4 #[(0, .slice a n1 c1), (1, .slice b n2 c2), (2, .slice c n3 c3), (3, .slice d n4 c4)]).run P w = .ok (.slice (some ⟨w.heap.size, 0, none⟩) 4 4) (w.alloc (.cells #[.slice a n1 c1, .slice b n2 c2, .slice c n3 c3, .slice d n4 c4] el))) :
    Valid P nid o ρ h ⟨SlS 4 X, [], []⟩ :=
  .fresh _ rfl fun σ κ a hops => by
    subst e0 e0' e1 e1' e2 e2' e3 e3'
    have h0 := hx σ κ _ (hops x (by rw [ho]; simp [Op.operands]))
    have h1 := hy σ κ _ (hops y (by rw [ho]; simp [Op.operands]))
    have h2 := hz σ κ _ (hops z (by rw [ho]; simp [Op.operands]))
    have h3 := hu σ κ _ (hops u (by rw [ho]; simp [Op.operands]))
    obtain ⟨b0, c0, u0⟩ := h0.form
    obtain ⟨b1, c1, u1⟩ := h1.form
    obtain ⟨b2, c2, u2⟩ := h2.form
    obtain ⟨b3, c3, u3⟩ := h3.form
    have hr := hrun b0 b1 b2 b3 (X 0).length (X 1).length (X 2).length (X 3).length c0 c1 c2 c3 κ.w
    rw [← u0, ← u1, ← u2, ← u3] at hr
    let cs : List Value := [a.eval x, a.eval y, a.eval z, a.eval u]
    refine ⟨_, κ.new (.cells cs.toArray el) none, ?_, κ.new_le _ _, fun b hb => κ.new_old _ _ b hb, cs, ⟨rfl, .inr ⟨⟨κ.w.heap.size, 0, none⟩, 4, rfl, Nat.le_refl _, by decide, rd_new κ cs el⟩⟩, fun j v hj => ?_⟩
    · unfold execOp
      rw [ho]
      have : (#[((0 : Nat), x), (1, y), (2, z), (3, u)].map fun q => (q.1, a.eval q.2)) = #[(0, a.eval x), (1, a.eval y), (2, a.eval z), (3, a.eval u)] := by simp
      simp only [this, hr, Sem.run_bind, Result.andThen_ok, Sem.run_pure]
      rfl
    · have hle := κ.new_le (.cells cs.toArray el) none
      have hlt : j < 4 := (List.getElem?_eq_some_iff.1 hj).1
      match j, hlt, hj with
      | 0, _, hj => cases hj; exact h0.mono hle
      | 1, _, hj => cases hj; exact h1.mono hle
      | 2, _, hj => cases hj; exact h2.mono hle
      | 3, _, hj => cases hj; exact h3.mono hle
end
/-- what was written, and is only read from here on -/
theorem Ent.freezeBuf {st : St} (k id n : Nat) {el : TypeId} {vals : List Value} (hk : st.env k = Buf id n) (hh : st.heap id = some (.buf el vals)) (hl : vals.length = n) : Ent st ⟨upd st.env k (Sl 1 n vals), upd st.heap id none, st.cnt⟩ := by
  intro X a w ⟨hc1, σ, κ, hw, h⟩
  have h1 := h.env_ k
  rw [hk] at h1
  obtain ⟨hu, b1, c1, hu1, hc2⟩ := h1
  have h2 := h.hr.at_ id _ hh
  obtain ⟨b, tl, fr, c, hσ, hheap, _, hcl, hcm, hown⟩ := h2
  have hblk : blk (σ id) = some b := by rw [hσ]; rfl
  let κ' : Kw := ⟨κ.w, fun g => if g = b then none else κ.own g, fun g m hg => by
    split at hg
    · cases hg
    · exact κ.lt g m hg⟩
  have hle : κ.le κ' := { os := rfl, tape := rfl, output := rfl, size := Nat.le_refl _, still := fun g hg ho => ⟨by simp [κ', ho], rfl⟩, grow := fun g m hm => ⟨fun k' hk' => by
    have hk' : (if g = b then none else κ.own g) = some k' := hk'
    split at hk'
    · cases hk'
    · rw [hm] at hk'; cases hk'; exact Nat.le_refl _, fun j u _ hu => hu⟩ }
  have hno : ∀ i, i ≠ id → ∀ c, upd st.heap id none i = some c → st.heap i = some c := fun i hi c hc => by rwa [upd_other _ _ _ _ hi] at hc
  have hne : ∀ i c, upd st.heap id none i = some c → i ≠ id := fun i c hc e => by rw [e, upd_same] at hc; cases hc
  have hnn : ∀ i, upd st.heap id none i ≠ none → i ≠ id ∧ st.heap i ≠ none := fun i hi => by
    have : i ≠ id := fun e => hi (by rw [e, upd_same])
    exact ⟨this, by rwa [upd_other _ _ _ _ this] at hi⟩
  refine ⟨hc1, σ, κ', hw, { tmps := h.tmps, prot := (by
      obtain ⟨D, ms, hp⟩ := h.prot
      have hb := hp.far id _ b hh hblk
      refine ⟨D, ms, hp.to hle (fun g hg => ⟨?_, rfl⟩) (fun g hg => ⟨?_, rfl⟩) (fun i c g hc hg => hp.far i c g (hno i (hne i c hc) c hc) hg) (fun I k e => ?_)⟩
      · have : g ≠ b := fun e => hb.1 (e ▸ hg)
        simp [κ', this]
      · have : g ≠ b := fun e => hb.2 (e ▸ hg)
        simp [κ', this]
      · by_cases e0 : 0 = id
        · subst e0; simp [idxOf, upd_same] at e
        · rw [← e]; exact (idxOf_congr (upd_other _ _ _ _ e0)).symm), base := h.base, pin := h.pin, env_ := fun t => ?_, le0 := Kw.le_trans h.le0 hle, old := fun g hg => ?_, hr := ⟨fun i c hc => ?_, fun i j g hij hi hj => ?_, fun i c g hc => ?_⟩, sup := fun t s hs => ?_, hsup := fun i c hc => ?_ }⟩
  · by_cases e : t = k
    · subst e
      simp only [upd_same]
      rw [hu, hσ, hl]
      refine ⟨by omega, .inr ⟨⟨b, 0, none⟩, c, rfl, by omega, hcm, fun j u hj => ⟨rfl, ?_, fun m hm => ?_⟩⟩⟩
      · show World.cell? κ.w ⟨b, 0 + j, none⟩ = some u
        have hjl := (List.getElem?_eq_some_iff.1 hj).1
        rw [Nat.zero_add, cell_of_row _ _ _ _ _ _ hheap, List.getElem?_toArray, List.getElem?_append_left hjl]
        exact hj
      · have hm : (if b = b then none else κ.own b) = some m := hm
        simp at hm
    · simp only [upd_other _ _ _ _ e]
      exact (st.env t).mono hle (h.env_ t)
  · have hi := hne i c hc
    have hc' := hno i hi c hc
    refine Chunk.keep hle (fun g hg => ⟨rfl, ?_⟩) (h.hr.at_ i c hc')
    have hgb : g ≠ b := fun e => h.hr.far i id g hi (by rw [hc']; exact fun x => by cases x) (by rw [hh]; exact fun x => by cases x) hg (by rw [hblk, e])
    simp [κ', hgb]
  · exact h.hr.far i j g hij (hnn i hi).2 (hnn j hj).2
  · exact h.hr.base i c g (hno i (hne i c hc) c hc)
  · have hgb : g ≠ b := fun e => h.hr.base id _ b hh hblk (e ▸ hg)
    have := h.old g hg
    exact ⟨by simp [κ', hgb, this.1], this.2⟩
  · by_cases e : t = k
    · subst e
      simp only [upd_same] at hs
      cases hs
    · simp only [upd_other _ _ _ _ e] at hs
      exact h.sup t s hs
  · exact h.hsup i c (hno i (hne i c hc) c hc)
end Ab
end Go.Proofs.Ytdcenocljnlipaa

namespace Go.Proofs.Ytdcenocljnlipaa
open Go.RowKit
namespace Ab
/-- f goes up with these, whatever it did to the chunks that were handed in -/
structure FUp (P : Program) (f : FuncId) (args : List AV) (hin : List (Nat × Chunk)) (ch : List PanicEntry) : Prop where
  ent : ∀ (args : Array Value) (w : World), (callFunc f args).run P w = .ok (.enter f args) w
  calls : ∀ (σ : Names) (κ : Kw) (vs : List Value) (fr : Nat → Prop), All2 σ κ args vs → HR fr σ κ (hpOf hin) → (∀ b, fr b → b < κ.w.heap.size) →
    Calls P f vs.toArray κ.w (fun e w' => ∃ κ', e = .panicked ch ∧ κ'.w = w' ∧ κ.le κ' ∧ ∀ b, fr b → κ'.own b = κ.own b ∧ κ'.w.heap[b]? = κ.w.heap[b]?)
def nones (gone : List Nat) : List (Nat × Option Chunk) := gone.map fun i => (i, none)
theorem nones_some : ∀ (gone : List Nat) (h : Heap) (i : Nat) (c : Chunk), updl h (nones gone) i = some c → h i = some c
  | [], _, _, _, e => e
  | j :: gone, h, i, c, e => by
    have := nones_some gone (upd h j none) i c e
    by_cases hj : i = j
    · subst hj; rw [upd_same] at this; cases this
    · rwa [upd_other _ _ _ _ hj] at this
/-- operation o goes up with these; some chunks are gone -/
structure VUp (P : Program) (nid : Nat) (o : Oper) (ρ : Operand → AV) (h : Heap) (ch : List PanicEntry) (gone : List Nat) : Prop where
  run : ∀ (base : Nat → Prop) (σ : Names) (κ : Kw) (h' : Heap) (a : Act) (next : Act → World → Prop) (Q : Exit → Act → World → Prop),
    (∀ x ∈ o.op.operands, (ρ x).p σ κ (a.eval x)) → (∀ i ∈ gone, h' i = h i) → HR base σ κ h' → (∀ b, base b → b < κ.w.heap.size) →
    (∀ i c, h' i = some c → i / 8 ≠ nid ∧ ∀ s ∈ c.sup, s / 8 ≠ nid) →
    (∀ σ' (κ' : Kw), κ.le κ' → (∀ b, base b → κ'.own b = κ.own b ∧ κ'.w.heap[b]? = κ.w.heap[b]?) → (∀ i, i / 8 ≠ nid → σ' i = σ i) → HR base σ' κ' (updl h' (nones gone)) → Q (.panic ch) a κ'.w) → o.wp P a κ.w next Q
  calm : ∀ c, o.op ≠ .defer c
theorem RK.lose {X : Fix} {used : Nat → Prop} {env : Env} {heap : Heap} {a : Act} {σ σ' : Names} {κ κ' : Kw} {D : Nat → Prop} {ms : List Nat} {gone : List Nat} {nid : Nat} (h : RK X used env heap a σ κ) (hp : Prot X heap a.defers σ κ D ms) (h1n : 1 ≤ nid) (hn : ∀ s, used s → s / 8 ≠ nid)
    (hle : κ.le κ') (hold : ∀ b, X.base b ∨ D b ∨ b ∈ ms → κ'.own b = κ.own b ∧ κ'.w.heap[b]? = κ.w.heap[b]?) (hσ : ∀ i, i / 8 ≠ nid → σ' i = σ i) (hhr : HR (fun b => X.base b ∨ D b ∨ b ∈ ms) σ' κ' (updl heap (nones gone))) (hz : ∀ i ∈ gone, i ≠ 0) : RK X used env (updl heap (nones gone)) a σ' κ' := by
  have hst : Still D κ κ' := fun b hb => hold b (.inr (.inl hb))
  have hst2 : Still (· ∈ ms) κ κ' := fun b hb => hold b (.inr (.inr hb))
  exact { tmps := h.tmps, base := fun b hb => Nat.lt_of_lt_of_le (h.base b hb) hle.size, pin := fun i hi => (hσ i (by omega)).trans (h.pin i hi)
          env_ := fun t => (env t).loc (fun i hi => hσ i (hn i (h.sup t i hi))) ((env t).mono hle (h.env_ t))
          hr := ⟨hhr.at_, hhr.far, fun i c g hc hg hb => hhr.base i c g hc hg (.inl hb)⟩
          le0 := Kw.le_trans h.le0 hle, old := fun b hb => ⟨(hold b (.inl hb)).1.trans (h.old b hb).1, (hold b (.inl hb)).2.trans (h.old b hb).2⟩
          sup := h.sup, hsup := fun i c hc => h.hsup i c (nones_some gone heap i c hc)
          prot := ⟨D, ms, hp.to hle hst hst2 (fun i c g hc hg => ⟨fun hb => hhr.base i c g hc hg (.inr (.inl hb)), fun hb => hhr.base i c g hc hg (.inr (.inr hb))⟩) (fun I k e => by
            rw [← e]
            refine (idxOf_congr ?_).symm
            unfold nones
            exact updl_out _ _ _ (fun x hx => by
              obtain ⟨j, hj, rfl⟩ := List.mem_map.1 hx
              exact hz j hj))⟩ }
theorem runs_pre {P : Program} {X : Fix} {c : Nat} {ops : Array Oper} {Q : Exit → Act → World → Prop} (hok : X.ok P) (n : Nat) (hc1 : 1 ≤ c) (hg : ∀ (k : Nat) (o : Oper), ops[k]? = some o → ∀ (j : Nat) (want : Bool), o.guard = some (j, want) → ∀ d : Nat, (ops[j]?).bind (·.dst) = some d → d ∈ o.looksAt ops) (rest : List Nat) :
    ∀ (l : List Oper) (k : Nat) (env : Env) (heap : Heap) (K : List Res → Env → Heap → Prop) (a : Act) (w : World), (∀ j o, l[j]? = some o → ops[k + j]? = some o) → Runs P X.N c ops k l env heap K → R X (fun s => s / 8 < c + k) env heap a w →
    (∀ rs env' heap' a' w', K rs env' heap' → R X (fun s => s / 8 < c + k + l.length) env' heap' a' w' → wpOpsIn (rnd X.round) n P ops Q rest a' w') → wpOpsIn (rnd X.round) n P ops Q (List.range' k l.length ++ rest) a w
  | [], k, env, heap, K, a, w, _, hr, h, hQ => by
    simp only [List.length_nil, List.range'_zero, List.nil_append]
    exact hQ [] env heap a w hr h
  | o :: l, k, env, heap, K, a, w, hl, hr, h, hQ => by
    obtain ⟨r, hv, hd, hr⟩ := hr
    have h0 : ops[k]? = some o := by simpa using hl 0 o rfl
    simp only [List.length_cons, List.range'_succ, List.cons_append, wpOpsIn, h0]
    refine gstep hok n h (by omega) (fun s hs => by omega) hv (fun _ _ => rfl) (fun _ _ => rfl) (fun d hd' => by rw [hd'] at hd; simpa using hd) (hg k o h0) ?_
    intro a' w' hR
    refine runs_pre hok n hc1 hg rest l (k + 1) _ _ _ a' w' (fun j o' hj => by have := hl (j + 1) o' (by simpa using hj); simpa [Nat.add_assoc, Nat.add_comm 1 j] using this) hr ?_ (fun rs env' heap' a2 w2 hK hR2 => hQ (r :: rs) env' heap' a2 w2 hK ?_)
    · obtain ⟨σ, κ, hw, hR⟩ := hR
      exact ⟨σ, κ, hw, hR.more fun s hs => by
        show s / 8 < c + (k + 1)
        rcases hs with hs | hs
        · have : s / 8 < c + k := hs
          omega
        · omega⟩
    · obtain ⟨σ, κ, hw, hR2⟩ := hR2
      exact ⟨σ, κ, hw, hR2.more fun s hs => by
        have : s / 8 < c + (k + 1) + l.length := hs
        show s / 8 < c + k + (o :: l).length
        simp only [List.length_cons]; omega⟩
/-- a region that goes up at its operation j -/
theorem W_upl {P : Program} {N : Nat} {Q : Exit → St → Prop} {id : Nat} {ops pre post : List Oper} {o : Oper} {env : Env} {heap : Heap} {c c' : Nat} (hg : grdB ops = true) (hsp : ops = pre ++ o :: post) (hgo : o.guard = none) (hc : Nat.beq (c + pre.length + 1) c' = true)
    (h : Runs P N c ops.toArray 0 pre env heap (fun _ env heap => ∃ ch gone, VUp P (c + pre.length) o (ρof env) heap ch gone ∧ gone.all (fun i => !Nat.beq i 0) = true ∧ Q (.panic ch) ⟨env, updl heap (nones gone), c'⟩)) : W P N (.region id ops.toArray false) ⟨env, heap, c⟩ Q := fun X n a w hok hX hR => by
  have e := Nat.eq_of_beq_eq_true hc
  subst e
  subst hX
  refine wpIn_region ?_
  have hg' : ∀ (k : Nat) (o : Oper), ops.toArray[k]? = some o → ∀ (j : Nat) (want : Bool), o.guard = some (j, want) → ∀ d : Nat, (ops.toArray[j]?).bind (·.dst) = some d → d ∈ o.looksAt ops.toArray := fun k o ho j want hgd d hd => by
    simp only [grdB, List.all_eq_true] at hg
    have h2 := hg o (by have : ops[k]? = some o := by simpa using ho
                        exact List.mem_of_getElem? this)
    rw [hgd] at h2
    simp only at h2
    rw [hd] at h2
    simpa using h2
  have hr1 := hR.1
  have hr1 : 1 ≤ c := hr1
  have hat : ops.toArray[pre.length]? = some o := by subst hsp; simp
  have key : wpOpsIn (rnd X.round) n P ops.toArray (fun e a' w' => ∃ st', Q e st' ∧ RS X st' a' w') (List.range' 0 pre.length ++ List.range' pre.length (ops.length - pre.length)) a w := by
    refine runs_pre hok n hr1 hg' _ pre 0 env heap _ a w (fun j o' hj => by
      subst hsp
      rw [Nat.zero_add, List.getElem?_toArray]
      rw [List.getElem?_append_left (List.getElem?_eq_some_iff.1 hj).1]; exact hj) h hR.2 ?_
    rintro rs env' heap' a' w' ⟨ch, gone, hv, hz, hQ⟩ ⟨σ, κ, rfl, hRK⟩
    have hlen : ops.length - pre.length = post.length + 1 := by subst hsp; simp
    rw [hlen, List.range'_succ]
    simp only [wpOpsIn, hat]
    rw [if_pos (by unfold Region.wanted; rw [hgo])]
    obtain ⟨D, ms, hp⟩ := hRK.prot
    have hn : ∀ s, s / 8 < c + 0 + pre.length → s / 8 ≠ c + pre.length := fun s hs => by omega
    refine wp_rnd hv.calm (hv.run (fun b => X.base b ∨ D b ∨ b ∈ ms) σ κ heap' a' _ _ (fun x hx => hRK.eval x) (fun _ _ => rfl) ⟨hRK.hr.at_, hRK.hr.far, fun i c g hc hg hb => by
      rcases hb with hb | hb | hb
      · exact hRK.hr.base i c g hc hg hb
      · exact (hp.far i c g hc hg).1 hb
      · exact (hp.far i c g hc hg).2 hb⟩ (fun b hb => by
      rcases hb with hb | hb | hb
      · exact hRK.base b hb
      · exact (hp.bd b hb).1
      · exact hp.lt hb) (fun i c hc => ⟨hn i (hRK.hsup i c hc).1, fun s hs => hn s ((hRK.hsup i c hc).2 s hs)⟩) ?_) _ n
    intro σ' κ' hle hold hσ hhr
    refine ⟨_, hQ, by show 1 ≤ c + pre.length + 1; omega, σ', κ', rfl, ?_⟩
    have hRK' := hRK.lose hp (nid := c + pre.length) (by omega) hn hle hold hσ hhr (fun i hi e => by
      have := List.all_eq_true.1 hz i hi
      rw [e] at this; simp at this)
    exact hRK'.more fun s hs => by
      have : s / 8 < c + 0 + pre.length := hs
      show s / 8 < c + pre.length + 1
      omega
  have hsz : List.range ops.toArray.size = List.range' 0 pre.length ++ List.range' pre.length (ops.length - pre.length) := by
    have hle : pre.length ≤ ops.length := by subst hsp; simp
    rw [List.range_eq_range', List.size_toArray]
    have := List.range'_append_1 (s := 0) (m := pre.length) (n := ops.length - pre.length)
    rw [Nat.zero_add] at this
    rw [this]; congr 1; omega
  rw [hsz]
  exact key
theorem W_up {P : Program} {N : Nat} {Q : Exit → St → Prop} {id : Nat} {ops : List Oper} {o : Oper} {env : Env} {heap : Heap} {c c' : Nat} (j : Nat) (hg : grdB ops = true) (hj : ops[j]? = some o) (hgo : o.guard = none) (hc : Nat.beq (c + j + 1) c' = true)
    (h : Runs P N c ops.toArray 0 (ops.take j) env heap (fun _ env heap => ∃ ch gone, VUp P (c + j) o (ρof env) heap ch gone ∧ gone.all (fun i => !Nat.beq i 0) = true ∧ Q (.panic ch) ⟨env, updl heap (nones gone), c'⟩)) : W P N (.region id ops.toArray false) ⟨env, heap, c⟩ Q := by
  have hjl : j < ops.length := (List.getElem?_eq_some_iff.1 hj).1
  have hl : (ops.take j).length = j := by rw [List.length_take]; omega
  have hsp : ops = ops.take j ++ o :: ops.drop (j + 1) := by
    have : ops[j] = o := (List.getElem?_eq_some_iff.1 hj).2
    rw [← this, ← List.drop_eq_getElem_cons hjl, List.take_append_drop]
  exact W_upl hg hsp hgo (by rw [hl]; exact hc) (by rw [hl]; exact h)
section
variable {P : Program} {N : Nat} {st : St} {Q : Exit → St → Prop} {y : Code} {id : Nat} {ch : List PanicEntry}
theorem thenQ_p (h : Q (.panic ch) st) : thenQ P N y Q (.panic ch) st := h
theorem blockQ_p (h : Q (.panic ch) st) : blockQ id Q (.panic ch) st := h
theorem loopQ_p {G : Type} {I : G → Prop} {fx : List (Nat × AV)} {l : G → List (Nat × AV)} {hfx : List (Nat × Chunk)} {hl : G → List (Nat × Chunk)} {cnt : Nat} {μ : G → Nat} {g : G} (h : Q (.panic ch) st) : LoopQ I fx l hfx hl cnt μ g Q (.panic ch) st := h
end
theorem HR.nochunks {base : Nat → Prop} {σ : Names} {κ : Kw} : HR base σ κ (hpOf []) := ⟨fun i c hc => (by cases hc), fun i j g _ hi => absurd rfl hi, fun i c g hc => (by cases hc)⟩
section
variable {P : Program} {nid : Nat} {o : Oper} {ρ : Operand → AV} {h : Heap}
theorem VUp.callm {f : FuncId} {fo : Operand} {xs : Array Operand} {ts : Array TypeId} {args L : List AV} {hin : List (Nat × Chunk)} {ch : List PanicEntry} (m : List (Nat × Nat)) (ho : o.op = .call { callee := .value fo, args := xs, argTypes := ts }) (hL : CallTo ρ fo xs f L)
    (hc : FUp P f args hin ch) (ha : All2le (nmap nid m) L args) (hh : HpIn (nmap nid m) h hin)
    (hm : m.all (fun x => !Nat.beq (x.2 / 8) nid && Nat.blt x.1 8) = true) (hki : hin.all (fun x => (lookN m x.1).isSome && Nat.blt x.1 8) = true) (hinj : injB (nmap nid m) hin = true) : VUp P nid o ρ h ch (hin.map fun x => nmap nid m x.1) where
  calm := fun c e => by rw [ho] at e; cases e
  run := fun base σ κ h' a next Q hops hrd hr hb hfr hk => by
    obtain ⟨vs, hvs, hrun⟩ := hL.run ho hc.ent hops
    unfold Oper.wp
    rw [hrun]
    simp only [Oper.upon]
    obtain ⟨h1, h2, h3⟩ := mem_core (hout := []) (hout' := []) m hm hki hinj hh rfl List.nodup_nil trivial base σ κ h' hrd hr hb hfr
    refine (hc.calls _ κ vs _ (ha.all2 hvs) h1 (fun b hb => hb.1)).mono ?_
    rintro e w' ⟨κ', rfl, rfl, hle, hold⟩
    obtain ⟨σ', s1, _, s3, _⟩ := h3 κ' (fun i => σ (nmap nid m i)) hle (fun _ _ => rfl) hold HR.nochunks
    refine hk σ' κ' hle (fun b hbb => hold b (h2 b hbb)) s1 ?_
    rw [List.map_nil, List.append_nil] at s3
    unfold nones
    rw [List.map_map]
    exact s3
end
theorem leaves_msU {P : Program} {fn : Func} {tmps : Array Value} {R : Ending → World → Prop} {n : Nat} {u : FrameMode} {ds : List Deferred} (hu : u ≠ .run) : ∀ (ms : List Nat) (w : World), ms.Nodup → (∀ r, r ∈ ms → w.heap[r]? = some (.deferred (some []))) →
    LeavesInM Fence.wide n P fn tmps R ds u (shut w ms) → LeavesInM Fence.wide n P fn tmps R (ms.map mark ++ ds) u w
  | [], _, _, _, h => h
  | r :: ms, w, hn, hr, h => by
    obtain ⟨h1, h2⟩ := List.nodup_cons.1 hn
    refine ⟨hu, .inl ⟨r, w.putObj r (.deferred none), rfl, run_takeDeferred (hr r (by simp)), ?_⟩⟩
    refine leaves_msU hu ms _ h2 (fun r' hr' => ?_) h
    rw [World.putObj_heap_other (fun e => h1 (by rw [← e]; exact hr'))]
    exact hr r' (by simp [hr'])
def FinUpQ (ch : List PanicEntry) : Exit → St → Prop
  | .panic c, _ => c = ch
  | _, _ => False
/-- a function's start, over its arguments and the chunks that are handed in -/
theorem RS.start {N : Nat} {args : List AV} {hin : List (Nat × Chunk)} {σ : Names} {κ : Kw} {vs : List Value} {fr : Nat → Prop} (hn : Nat.ble args.length N = true)
    (hargs : args.all (fun B => B.sup.all (fun s => Nat.blt s 8)) = true) (hhin : hin.all (fun x => Nat.blt 0 x.1 && Nat.blt x.1 8 && x.2.sup.all (fun s => Nat.blt s 8)) = true)
    (hvs : All2 σ κ args vs) (hr : HR fr σ κ (hpOf hin)) (hfrb : ∀ b, fr b → b < κ.w.heap.size) :
    RS (Fix.plain N fr σ κ) ⟨argE 0 args, hpOf hin, 1⟩ { tmps := vs.toArray ++ Array.replicate (N - vs.toArray.size) undef, defers := [] } κ.w := by
  have hlen := hvs.length
  have hn' : args.length ≤ N := Nat.le_of_ble_eq_true hn
  have hi0 : idxOf (hpOf hin) = none := by
    cases h0 : hpOf hin 0 with
    | none => simp [idxOf, h0]
    | some c =>
      have := List.all_eq_true.1 hhin (0, c) (hpOf_mem h0)
      simp at this
  refine ⟨Nat.le_refl _, σ, κ, rfl, { tmps := by simp [Fix.plain]; omega, prot := ⟨_, [], Prot.plain hi0⟩, base := hfrb, pin := fun _ _ => rfl, env_ := fun t => ?_, hr := hr, le0 := Kw.le_refl κ, old := fun b _ => ⟨rfl, rfl⟩, sup := fun t s hs => ?_, hsup := fun i c hc => ?_ }⟩
  · rcases argE_at args 0 t with h1 | ⟨i, B, h1, h2, h3⟩
    · show (argE 0 args t).p _ _ _
      rw [h1]; trivial
    · show (argE 0 args t).p _ _ _
      rw [h3]
      obtain ⟨v, hv, hB⟩ := all2_get hvs h2
      have : (vs.toArray ++ Array.replicate (N - vs.toArray.size) undef).getD t undef = v := by
        have hi : i < vs.length := (List.getElem?_eq_some_iff.1 hv).1
        have ht : t = i := by omega
        subst ht
        rw [Array.getD_eq_getD_getElem?, Array.getElem?_append_left (by simpa using hi)]
        simp [hv]
      rw [this]; exact hB
  · show s / 8 < 1
    rcases argE_at args 0 t with h1 | ⟨i, B, h1, h2, h3⟩
    · have hs' : s ∈ (argE 0 args t).sup := hs
      rw [h1] at hs'; cases hs'
    · have hs' : s ∈ (argE 0 args t).sup := hs
      rw [h3] at hs'
      have := List.all_eq_true.1 (List.all_eq_true.1 hargs B (List.mem_of_getElem? h2)) s hs'
      simp only [Nat.blt_eq] at this; omega
  · have := List.all_eq_true.1 hhin (i, c) (hpOf_mem hc)
    simp only [Bool.and_eq_true, Nat.blt_eq] at this
    refine ⟨by show i / 8 < 1; omega, fun s hs => ?_⟩
    have h1 := List.all_eq_true.1 this.2 s hs
    simp only [Nat.blt_eq] at h1
    show s / 8 < 1; omega
theorem FUp.of {P : Program} {f : FuncId} {fn : Func} {c : Code} {args : List AV} {hin : List (Nat × Chunk)} {ch : List PanicEntry} {N : Nat} (hf : P.funcs[f]? = some fn) (hN : fn.ntmps = N) (hb : fn.body = some c) (hname : (fn.name == "runtime.NumGoroutine") = false) (hn : Nat.ble args.length N = true)
    (hargs : args.all (fun B => B.sup.all (fun s => Nat.blt s 8)) = true) (hhin : hin.all (fun x => Nat.blt 0 x.1 && Nat.blt x.1 8 && x.2.sup.all (fun s => Nat.blt s 8)) = true)
    (h0 : W P N c ⟨argE 0 args, hpOf hin, 1⟩ (FinUpQ ch)) : FUp P f args hin ch where
  ent := fun vs0 w => run_callFunc hf hname (by rw [hb]; rfl) vs0 w
  calls := fun σ κ vs fr hvs hr hfrb => by
    subst hN
    refine callsIn_wide.1 (callsIn_of_wp_marks (F := Fence.wide) (n := 0) hf hb trivial ?_)
    refine wpIn_mono (h0 _ 0 _ _ Fix.plain_ok rfl (RS.start hn hargs hhin hvs hr hfrb)) fun e a' w' ⟨st', hq, _, σ', κ', hw, hR⟩ => ?_
    cases e with
    | panic c =>
      have hq : c = ch := hq
      subst hq
      obtain ⟨ms, κ'', l1, l2, l3, l4, hR⟩ := hR.leave
      have l1 : a'.defers = ms.map mark ++ [] := l1
      show LeavesInM Fence.wide 0 P fn a'.tmps _ a'.defers (.panicking c) w'
      rw [l1]
      refine leaves_msU (by simp) ms w' l2 (fun r hr => by rw [← hw]; exact l3 r hr) ?_
      exact ⟨κ'', rfl, by rw [l4, hw], hR.le0, hR.old⟩
    | normal => exact hq.elim
    | ret => exact hq.elim
    | exit _ => exact hq.elim
    | goto _ => exact hq.elim
    | outgrown => exact hq.elim
end Ab
end Go.Proofs.Ytdcenocljnlipaa

namespace Go.Proofs.Ytdcenocljnlipaa
open Go.RowKit
namespace Ab
theorem runs_unfold_pre {P : Program} {N c : Nat} {ops : Array Oper} (env : Env) (heap : Heap) :
    ∀ (l : List Oper) (k : Nat) (pre : List Res) (K : List Res → Env → Heap → Prop), pre.length = k → (∀ j o, l[j]? = some o → ops[k + j]? = some o) →
    Runs P N c ops k l (E ops pre env (fun _ => true) k) (H pre heap (fun _ => true) k) K →
    ∃ rs, rs.length = l.length ∧ K rs (E ops (pre ++ rs) env (fun _ => true) (k + l.length)) (H (pre ++ rs) heap (fun _ => true) (k + l.length)) ∧
      ∀ i o r, k ≤ i → ops[i]? = some o → (pre ++ rs)[i]? = some r → GValid P (c + i) ops o (E ops (pre ++ rs) env (fun _ => true) i) (H (pre ++ rs) heap (fun _ => true) i) r ∧ ∀ d, o.dst = some d → d < N
  | [], k, pre, K, hp, _, h => ⟨[], rfl, by rw [List.append_nil]; exact h, fun i o r hi ho hr => by
      rw [List.append_nil] at hr
      have := (List.getElem?_eq_some_iff.1 hr).1
      omega⟩
  | o :: l, k, pre, K, hp, hl, ⟨r, hv, hd, h⟩ => by
    have h0 : ops[k]? = some o := by simpa using hl 0 o rfl
    have hE : ∀ m, m ≤ k → ∀ rs, E ops (pre ++ rs) env (fun _ => true) m = E ops pre env (fun _ => true) m := by
      intro m
      induction m with
      | zero => intro _ _; rfl
      | succ m ih =>
        intro hm rs
        simp only [E]
        rw [List.getElem?_append_left (by omega), ih (by omega)]
    have hH : ∀ m, m ≤ k → ∀ rs, H (pre ++ rs) heap (fun _ => true) m = H pre heap (fun _ => true) m := by
      intro m
      induction m with
      | zero => intro _ _; rfl
      | succ m ih =>
        intro hm rs
        simp only [H]
        rw [List.getElem?_append_left (by omega), ih (by omega)]
    have e1 : E ops (pre ++ [r]) env (fun _ => true) (k + 1) = putE (E ops pre env (fun _ => true) k) o.dst r.val := by
      simp only [E, h0]
      rw [List.getElem?_append_right (by omega), hp]
      simp only [Nat.sub_self, List.getElem?_cons_zero, cond_true]
      rw [hE k (Nat.le_refl _)]
    have e2 : H (pre ++ [r]) heap (fun _ => true) (k + 1) = updl (H pre heap (fun _ => true) k) r.wr := by
      simp only [H]
      rw [List.getElem?_append_right (by omega), hp]
      simp only [Nat.sub_self, List.getElem?_cons_zero, cond_true]
      rw [hH k (Nat.le_refl _)]
    rw [← e1, ← e2] at h
    obtain ⟨rs, h1, h2, h3⟩ := runs_unfold_pre env heap l (k + 1) (pre ++ [r]) _ (by simp [hp]) (fun j o' hj => by have := hl (j + 1) o' (by simpa using hj); simpa [Nat.add_assoc, Nat.add_comm 1 j] using this) h
    simp only [List.append_assoc, List.singleton_append] at h2 h3
    rw [show k + 1 + l.length = k + (o :: l).length by simp; omega] at h2
    refine ⟨r :: rs, by simp [h1], h2, fun i o' r' hi ho' hr' => ?_⟩
    by_cases hik : i = k
    · subst hik
      rw [h0] at ho'; cases ho'
      have : r' = r := by
        rw [List.getElem?_append_right (by omega), hp] at hr'
        simpa using hr'.symm
      subst this
      rw [hE i (Nat.le_refl _), hH i (Nat.le_refl _)]
      exact ⟨hv, fun d hd' => by rw [hd'] at hd; simpa using hd⟩
    · exact h3 i o' r' (by omega) ho' hr'
theorem E_pre {ops : Array Oper} {env : Env} (rs qs : List Res) : ∀ m, m ≤ rs.length → E ops (rs ++ qs) env (fun _ => true) m = E ops rs env (fun _ => true) m
  | 0, _ => rfl
  | m + 1, hm => by
    simp only [E]
    rw [List.getElem?_append_left (by omega), E_pre rs qs m (by omega)]
theorem H_pre {heap : Heap} (rs qs : List Res) : ∀ m, m ≤ rs.length → H (rs ++ qs) heap (fun _ => true) m = H rs heap (fun _ => true) m
  | 0, _ => rfl
  | m + 1, hm => by
    simp only [H]
    rw [List.getElem?_append_left (by omega), H_pre rs qs m (by omega)]
/-- slots that the first j operations may have turned are not known any more -/
def anyE (ops : List Oper) (j : Nat) (env : Env) : Env := fun t => if (ops.take j).any (fun o => o.dst == some t) then Any else env t
theorem E_any {ops : List Oper} {rs : List Res} {env : Env} {j : Nat} {L : Nat → Bool} (hL : ∀ k, L k = true → k < j) (t : Nat) (ht : (ops.take j).any (fun o => o.dst == some t) = false) : ∀ m, E ops.toArray rs env L m t = env t
  | 0 => rfl
  | m + 1 => by
    have ih := E_any (rs := rs) (env := env) hL t ht m
    simp only [E]
    cases ho : ops.toArray[m]? with
    | none => exact ih
    | some o =>
      cases hr : rs[m]? with
      | none => exact ih
      | some r =>
        cases hm : L m with
        | false => exact ih
        | true =>
          show putE _ o.dst r.val t = env t
          have hmj := hL m hm
          have ho' : ops[m]? = some o := by simpa using ho
          have hmem : o ∈ ops.take j := List.mem_of_getElem? (i := m) (by rw [List.getElem?_take_of_lt hmj]; exact ho')
          have hne : ¬ o.dst = some t := fun e => by
            have := List.any_eq_false.1 ht o hmem
            rw [e] at this; simp at this
          rw [putE_eq, if_neg hne]; exact ih
theorem H_none {rs : List Res} {heap : Heap} {L : Nat → Bool} (hw : ∀ k r, L k = true → rs[k]? = some r → r.wr = []) : ∀ m, H rs heap L m = heap
  | 0 => rfl
  | m + 1 => by
    simp only [H]
    split
    · rename_i r hr
      cases hm : L m with
      | false => exact H_none hw m
      | true =>
        show updl _ r.wr = heap
        rw [hw m r hm hr]; exact H_none hw m
    · exact H_none hw m
theorem any_up {P : Program} {X : Fix} {c : Nat} {ops : List Oper} {rs : List Res} {env : Env} {heap : Heap} {Q : Exit → Act → World → Prop} (hok : X.ok P) (n : Nat) (hc1 : 1 ≤ c) (I : Indep ops.toArray rs) {j : Nat} {oj : Oper} {rj : Res} (hoj : ops.toArray[j]? = some oj) (hrj : rs[j]? = some rj) (hgo : oj.guard = none)
    (hS : ∀ i o, ops.toArray[i]? = some o → j < i → ∃ e ∈ o.after, Region.binds .any e = true ∧ j ≤ e.on)
    (hv : ∀ i o r, i < j → ops.toArray[i]? = some o → rs[i]? = some r → (GValid P (c + i) ops.toArray o (E ops.toArray rs env (fun _ => true) i) (H rs heap (fun _ => true) i) r ∧ ∀ d, o.dst = some d → d < X.N) ∧ r.wr = [])
    {ch : List PanicEntry} (hup : VUp P (c + j) oj (ρof (E ops.toArray rs env (fun _ => true) j)) (H rs heap (fun _ => true) j) ch rj.rd) (hz : ∀ i ∈ rj.rd, i ≠ 0)
    (hQ : ∀ a w, R X (fun s => s / 8 < c + I.n) (anyE ops j env) (updl heap (nones rj.rd)) a w → Q (.panic ch) a w) :
    ∀ (fuel : Nat) (listed : Array Bool) (a : Act) (w : World), listed.size = I.n → (∀ k o, ops.toArray[k]? = some o → Lf listed k = true → ∀ e ∈ o.after, Region.binds .any e = true → Lf listed e.on = true) → (∀ k, Lf listed k = true → k < j) →
      (List.range I.n).countP (fun k => !Lf listed k) = fuel → R X (fun s => s / 8 < c ∨ ∃ k, k < I.n ∧ Lf listed k = true ∧ s / 8 = c + k) (E ops.toArray rs env (Lf listed) I.n) (H rs heap (Lf listed) I.n) a w → wpAnyIn (rnd X.round) n P .any ops.toArray Q fuel listed a w := by
  have hjn : j < I.n := by rw [← I.size]; exact (Array.getElem?_eq_some_iff.1 hoj).1
  intro fuel
  induction fuel with
  | zero =>
    intro listed a w hsz _ hlt hcnt hR
    have : Lf listed j = true := by
      have := List.countP_eq_zero.1 hcnt j (by simpa using hjn)
      simpa using this
    have := hlt j this
    omega
  | succ fuel ih =>
    intro listed a w hsz hclosed hlt hcnt hR
    have hLj : Lf listed j = false := by
      cases h : Lf listed j with
      | false => rfl
      | true => have := hlt j h; omega
    refine ⟨fun hnil => ?_, fun i hi => ?_⟩
    · exfalso
      have hall : ∀ k, k < I.n → Lf listed k = true := by
        intro k
        induction k using Nat.strongRecOn with
        | _ k ihk =>
          intro hk
          cases hLk : Lf listed k with
          | true => rfl
          | false =>
            obtain ⟨o, ho⟩ : ∃ o, ops.toArray[k]? = some o := ⟨_, Array.getElem?_eq_getElem (by rw [I.size]; exact hk)⟩
            have hl : k < listed.size := by omega
            have : k ∈ Region.ready .any ops.toArray listed := mem_ready.2 ⟨by
              simp only [Lf, Array.getD_eq_getD_getElem?, Array.getElem?_eq_getElem hl, Option.getD_some] at hLk ⊢
              exact hLk, o, ho, fun e he hb => by
              have hlt := I.edge k o ho e he hb
              exact ihk e.on hlt (by omega)⟩
            rw [hnil] at this; cases this
      rw [hall j hjn] at hLj; cases hLj
    · obtain ⟨h1, o, ho, hpre⟩ := mem_ready.1 hi
      have hin : i < I.n := by rw [← I.size]; exact (Array.getElem?_eq_some_iff.1 ho).1
      have hl : i < listed.size := by omega
      have hLi : Lf listed i = false := by
        simp only [Lf, Array.getD_eq_getD_getElem?, Array.getElem?_eq_getElem hl, Option.getD_some] at h1 ⊢
        exact h1
      have hij : i ≤ j := Classical.byContradiction fun hgt => by
        obtain ⟨e, he, hb, hon⟩ := hS i o ho (by omega)
        have := hlt e.on (hpre e he hb)
        omega
      by_cases hne : i = j
      · subst hne
        rw [ho] at hoj; cases hoj
        unfold wpOpIn
        rw [ho]
        show if Region.wanted oj (yielded ops.toArray a.tmps) then _ else _
        rw [if_pos (by simp [Region.wanted, hgo])]
        obtain ⟨σ, κ, rfl, hRK⟩ := hR
        obtain ⟨D, ms, hp⟩ := hRK.prot
        have hn : ∀ s, (s / 8 < c ∨ ∃ k, k < I.n ∧ Lf listed k = true ∧ s / 8 = c + k) → s / 8 ≠ c + i := fun s hs e => by
          rcases hs with hs | ⟨k, hk, hLk, hs⟩
          · omega
          · have : k = i := by omega
            subst this
            rw [hLi] at hLk; cases hLk
        have hmin : min I.n i = i := by omega
        refine wp_rnd hup.calm (hup.run (fun b => X.base b ∨ D b ∨ b ∈ ms) σ κ (H rs heap (Lf listed) I.n) a _ _ (fun x hx => ?_) (fun g hg => ?_) ⟨hRK.hr.at_, hRK.hr.far, fun i c g hc hg hb => by
          rcases hb with hb | hb | hb
          · exact hRK.hr.base i c g hc hg hb
          · exact (hp.far i c g hc hg).1 hb
          · exact (hp.far i c g hc hg).2 hb⟩ (fun b hb => by
          rcases hb with hb | hb | hb
          · exact hRK.base b hb
          · exact (hp.bd b hb).1
          · exact hp.lt hb) (fun i c hc => ⟨hn i (hRK.hsup i c hc).1, fun s hs => hn s ((hRK.hsup i c hc).2 s hs)⟩) ?_) _ n
        · cases x with
          | tmp t =>
            have ht : t ∈ oj.looksAt ops.toArray := List.mem_append_left _ (List.mem_filterMap.2 ⟨.tmp t, by simpa using hx, rfl⟩)
            have := E_env I env (Lf listed) hclosed ho hrj hLi hpre t ht I.n (Nat.le_refl _)
            rw [hmin] at this
            have h2 := hRK.env_ t
            rw [this] at h2
            exact h2
          | const v => rfl
          | global v => trivial
          | func v => rfl
        · have := H_heap I heap (Lf listed) hclosed ho hrj hLi hpre g hg I.n (Nat.le_refl _)
          rwa [hmin] at this
        · intro σ' κ' hle hold hσ hhr
          have hw : ∀ k r, Lf listed k = true → rs[k]? = some r → r.wr = [] := fun k r hk hr => by
            have hkj := hlt k hk
            obtain ⟨ok, hok'⟩ : ∃ o, ops.toArray[k]? = some o := ⟨_, Array.getElem?_eq_getElem (by rw [I.size]; omega)⟩
            exact (hv k ok r hkj hok' hr).2
          have hRK' := hRK.lose hp (nid := c + i) (by omega) hn hle hold hσ hhr hz
          rw [H_none hw] at hRK'
          refine hQ a κ'.w ⟨σ', κ', rfl, { tmps := hRK'.tmps, base := hRK'.base, pin := hRK'.pin, env_ := fun t => ?_, hr := hRK'.hr, le0 := hRK'.le0, old := hRK'.old, sup := fun t s hs => ?_, hsup := fun i ck hc => ?_, prot := hRK'.prot }⟩
          · unfold anyE
            split
            · trivial
            · rename_i h
              have h3 := hRK'.env_ t
              rw [E_any hlt t (by simpa using h)] at h3
              exact h3
          · unfold anyE at hs
            split at hs
            · cases hs
            · rename_i h
              have h3 := hRK'.sup t s (by rw [E_any hlt t (by simpa using h)]; exact hs)
              show s / 8 < c + I.n
              rcases h3 with h4 | ⟨k, hk, _, h4⟩ <;> omega
          · obtain ⟨h3, h4⟩ := hRK'.hsup i ck hc
            have key : ∀ s, (s / 8 < c ∨ ∃ k, k < I.n ∧ Lf listed k = true ∧ s / 8 = c + k) → s / 8 < c + I.n := fun s hs => by
              rcases hs with h4 | ⟨k, hk, _, h4⟩ <;> omega
            exact ⟨key i h3, fun s hs => key s (h4 s hs)⟩
      · have hlt' : i < j := by omega
        obtain ⟨r, hr⟩ : ∃ r, rs[i]? = some r := ⟨_, List.getElem?_eq_getElem (by rw [I.len]; exact hin)⟩
        obtain ⟨⟨hgv, hd⟩, _⟩ := hv i o r hlt' ho hr
        have hmin : min I.n i = i := by omega
        unfold wpOpIn
        rw [ho]
        refine gstep hok n hR (by omega) (fun s hs => ?_) hgv (fun t ht => ?_) (fun q hq => ?_) hd (I.grd i o ho) ?_
        · rcases hs with hs | ⟨k, hk, hLk, hs⟩
          · have : s / 8 < c := hs
            omega
          · intro e
            have : k = i := by omega
            subst this
            rw [hLi] at hLk; cases hLk
        · have := E_env I env (Lf listed) hclosed ho hr hLi hpre t ht I.n (Nat.le_refl _)
          rwa [hmin] at this
        · have := H_heap I heap (Lf listed) hclosed ho hr hLi hpre q hq I.n (Nat.le_refl _)
          rwa [hmin] at this
        · intro a' w' hR'
          have e1 := E_put I env (Lf listed) hclosed ho hr hLi I.n (Nat.le_refl _)
          have e2 := H_put I heap (Lf listed) hclosed ho hr hLi I.n (Nat.le_refl _)
          rw [if_pos hin] at e1 e2
          rw [← e1, ← e2, ← Lf_set listed i hl] at hR'
          refine ih (listed.setIfInBounds i true) a' w' (by simpa using hsz) ?_ (fun k hk => ?_) ?_ ?_
          · intro k ok hk hLk e he hb
            rw [Lf_set listed i hl] at hLk ⊢
            by_cases hki : k = i
            · subst hki
              rw [ho] at hk; cases hk
              have := hpre e he hb
              simp only [lst, Bool.or_eq_true]
              exact .inl this
            · rw [lst_other _ _ _ hki] at hLk
              simp only [lst, Bool.or_eq_true]
              exact .inl (hclosed k ok hk hLk e he hb)
          · rw [Lf_set listed i hl] at hk
            by_cases hki : k = i
            · subst hki; exact hlt'
            · rw [lst_other _ _ _ hki] at hk; exact hlt k hk
          · rw [Lf_set listed i hl]
            have key : ∀ (l : List Nat), l.Nodup → i ∈ l → l.countP (fun k => !lst (Lf listed) i k) + 1 = l.countP (fun k => !Lf listed k) := by
              intro l
              induction l with
              | nil => intro _ h; cases h
              | cons x l ihl =>
                intro hnd hmem
                obtain ⟨hx, hnd⟩ := List.nodup_cons.1 hnd
                by_cases hxi : x = i
                · subst hxi
                  have h0 : l.countP (fun k => !lst (Lf listed) x k) = l.countP (fun k => !Lf listed k) := by
                    apply List.countP_congr
                    intro y hy
                    rw [lst_other _ _ y (fun e => hx (by rw [← e]; exact hy))]
                  rw [List.countP_cons_of_neg (by simp [lst_same]), List.countP_cons_of_pos (by simp [hLi]), h0]
                · have hm : i ∈ l := by
                    rcases List.mem_cons.1 hmem with h | h
                    · exact absurd h.symm hxi
                    · exact h
                  have h0 := ihl hnd hm
                  simp only [List.countP_cons, lst_other _ _ _ hxi]
                  omega
            have := key (List.range I.n) List.nodup_range (by simpa using hin)
            omega
          · obtain ⟨σ, κ, hw, hR'⟩ := hR'
            refine ⟨σ, κ, hw, hR'.more fun s hs => ?_⟩
            rcases hs with (hs | ⟨k, hk, hLk, hs⟩) | hs
            · exact .inl hs
            · refine .inr ⟨k, hk, ?_, hs⟩
              rw [Lf_set listed i hl]; simp only [lst, Bool.or_eq_true]; exact .inl hLk
            · exact .inr ⟨i, hin, by rw [Lf_set listed i hl]; exact lst_same _ _, hs⟩
theorem W_upD {P : Program} {N : Nat} {Q : Exit → St → Prop} {id : Nat} {ops : List Oper} {o : Oper} {env : Env} {heap : Heap} {c c' : Nat} (j : Nat) (hm : P.follows .mixedOrders = true) (hj : ops[j]? = some o) (hgo : o.guard = none) (hc : Nat.beq (c + ops.length) c' = true)
    (hdep : (ops.drop (j + 1)).all (fun o => o.after.any fun e => Region.binds .any e && Nat.ble j e.on) = true)
    (h : Runs P N c ops.toArray 0 (ops.take j) env heap (fun rs env' heap' => ∃ ch gone rd, rs.map Res.rd = rd ∧ rs.all (fun r => r.wr.isEmpty) = true ∧ indepB (rd ++ gone :: List.replicate (ops.length - j - 1) []) (List.replicate ops.length []) ops = true ∧ VUp P (c + j) o (ρof env') heap' ch gone ∧ gone.all (fun i => !Nat.beq i 0) = true ∧ Q (.panic ch) ⟨anyE ops j env, updl heap (nones gone), c'⟩)) : W P N (.region id ops.toArray true) ⟨env, heap, c⟩ Q := fun X n a w hok hX hR => by
  have e := Nat.eq_of_beq_eq_true hc
  subst e
  subst hX
  refine wpIn_region_any hm ?_
  have hjl : j < ops.length := (List.getElem?_eq_some_iff.1 hj).1
  have hl : (ops.take j).length = j := by rw [List.length_take]; omega
  obtain ⟨rs, h1, ⟨ch, gone, rd, h2, h3, h4, hup, hz, hQ⟩, h6⟩ := runs_unfold_pre (P := P) (N := X.N) (c := c) (ops := ops.toArray) env heap (ops.take j) 0 [] _ rfl (fun i o' hi => by
    have hij : i < j := by have := (List.getElem?_eq_some_iff.1 hi).1; omega
    rw [List.getElem?_take_of_lt hij] at hi
    simpa using hi) h
  simp only [List.nil_append, Nat.zero_add, hl] at hup h6 h1
  let rj : Res := ⟨Any, gone, []⟩
  let qs : List Res := rj :: List.replicate (ops.length - j - 1) ⟨Any, [], []⟩
  have hlen : (rs ++ qs).length = ops.length := by simp [qs, h1]; omega
  have hrd : (rs ++ qs).map Res.rd = rd ++ gone :: List.replicate (ops.length - j - 1) [] := by
    rw [List.map_append, h2]; simp [qs, rj]
  have hw0 : ∀ r ∈ rs, r.wr = [] := fun r hr => by
    have := List.all_eq_true.1 h3 r hr
    simpa using this
  have hwr : (rs ++ qs).map (fun r => r.wr.map Prod.fst) = List.replicate ops.length [] := by
    apply List.eq_replicate_iff.2
    refine ⟨by rw [List.length_map, hlen], fun b hb => ?_⟩
    obtain ⟨r, hr, rfl⟩ := List.mem_map.1 hb
    rcases List.mem_append.1 hr with hr | hr
    · rw [hw0 r hr]; rfl
    · rcases List.mem_cons.1 hr with rfl | hr
      · rfl
      · rw [(List.mem_replicate.1 hr).2]; rfl
  have I := Indep.mk' _ _ hrd hwr hlen h4
  have hIn : I.n = ops.length := by rw [← I.size]; simp
  have hrj : (rs ++ qs)[j]? = some rj := by rw [List.getElem?_append_right (by omega), h1, Nat.sub_self]; rfl
  refine any_up (c := c) (rs := rs ++ qs) (env := env) (heap := heap) (j := j) (oj := o) (rj := rj) hok n hR.1 I (by simpa using hj) hrj hgo (fun i o' ho' hi => ?_) (fun i o' r hi ho' hr => ?_) (ch := ch) ?_ (fun i hi e => ?_) (fun a' w' hR' => ⟨_, hQ, Nat.le_trans hR.1 (Nat.le_add_right _ _), by rw [hIn] at hR'; exact hR'⟩) ops.toArray.size _ a _ ?_ ?_ ?_ ?_ ?_
  · have hmem : o' ∈ ops.drop (j + 1) := by
      have : ops[i]? = some o' := by simpa using ho'
      refine List.mem_of_getElem? (i := i - (j + 1)) ?_
      rw [List.getElem?_drop, show j + 1 + (i - (j + 1)) = i by omega]; exact this
    have := List.all_eq_true.1 hdep o' hmem
    obtain ⟨e, he, hb⟩ := Array.any_eq_true'.1 this
    simp only [Bool.and_eq_true] at hb
    exact ⟨e, he, hb.1, Nat.le_of_ble_eq_true hb.2⟩
  · rw [List.getElem?_append_left (by omega)] at hr
    have := h6 i o' r (Nat.zero_le _) ho' hr
    rw [E_pre rs qs i (by omega), H_pre rs qs i (by omega)]
    exact ⟨this, hw0 r (List.mem_of_getElem? hr)⟩
  · rw [E_pre rs qs j (by omega), H_pre rs qs j (by omega)]
    exact hup
  · have := List.all_eq_true.1 hz i hi
    rw [e] at this; simp at this
  · rw [hIn]; simp
  · intro k o' _ hL
    simp only [Lf, Array.getD_eq_getD_getElem?, Array.getElem?_replicate] at hL
    split at hL <;> simp at hL
  · intro k hL
    simp only [Lf, Array.getD_eq_getD_getElem?, Array.getElem?_replicate] at hL
    split at hL <;> simp at hL
  · have : ∀ k, Lf (Array.replicate ops.toArray.size false) k = false := fun k => by
      unfold Lf
      rw [Array.getD_eq_getD_getElem?, Array.getElem?_replicate]
      split <;> rfl
    rw [hIn]
    show (List.range ops.length).countP (fun k => !Lf (Array.replicate ops.toArray.size false) k) = ops.length
    rw [List.countP_eq_length.2 (fun k _ => by rw [this]; rfl), List.length_range]
  · have hf : Lf (Array.replicate ops.toArray.size false) = fun _ => false := by
      funext k
      unfold Lf
      rw [Array.getD_eq_getD_getElem?, Array.getElem?_replicate]
      split <;> rfl
    have hE : ∀ m, E ops.toArray (rs ++ qs) env (fun _ => false) m = env := by
      intro m
      induction m with
      | zero => rfl
      | succ m ih => simp only [E]; split <;> simp [ih]
    have hH : ∀ m, H (rs ++ qs) heap (fun _ => false) m = heap := by
      intro m
      induction m with
      | zero => rfl
      | succ m ih => simp only [H]; split <;> simp [ih]
    rw [hf, hE, hH]
    obtain ⟨σ, κ, hw, hR'⟩ := R.drew hR.2
    exact ⟨σ, κ, hw, hR'.more fun s hs => .inl hs⟩
end Ab
end Go.Proofs.Ytdcenocljnlipaa

namespace Go.Proofs.Ytdcenocljnlipaa
open Go.RowKit
namespace Ab
/-- a deferred function: what it does to the chunks, and to what goes up -/
structure FDef (P : Program) (f : FuncId) (caps : List AV) (hin : List (Nat × Chunk)) (u u' : FrameMode) (hout : List (Nat × Chunk)) : Prop where
  ent : ∀ (args : Array Value) (w : World), (callFunc f args).run P w = .ok (.enter f args) w
  calls : ∀ (σ : Names) (κ : Kw) (vs : List Value) (fr : Nat → Prop) (n : Nat), All2 σ κ caps vs → HR fr σ κ (hpOf hin) → (∀ b, fr b → b < κ.w.heap.size) →
    CallsDIn Fence.wide n P f vs.toArray u κ.w (fun e u'' w' => e = .returned (.tuple #[]) ∧ u'' = u' ∧ ∃ κ', κ'.w = w' ∧ κ.le κ' ∧ (∀ b, fr b → κ'.own b = κ.own b ∧ κ'.w.heap[b]? = κ.w.heap[b]?) ∧ HR fr σ κ' (hpOf hout))
def low (l : List (Nat × Chunk)) : Bool := l.all fun x => Nat.blt 0 x.1 && Nat.blt x.1 8 && x.2.sup.all (fun s => Nat.blt s 8)
def FinDQ (P : Program) (fn : Func) (A : AV) (fd : FuncId) (caps : List AV) : Exit → St → Prop
  | .normal, st | .ret, st => ∃ hR, HpIn (fun i => i) st.heap hR ∧ low hR = true ∧ FDef P fd caps hR .returning .returning hR ∧ ResOk P fn ⟨st.env, hpOf hR, st.cnt⟩ A
  | .panic ch, st => ∃ hI hR u', HpIn (fun i => i) st.heap hI ∧ low hI = true ∧ low hR = true ∧ FDef P fd caps hI (.panicking ch) u' hR ∧ settle u' = .returning ∧ ResOk P fn ⟨st.env, hpOf hR, st.cnt⟩ A
  | _, _ => False
theorem HpIn.hr {fr : Nat → Prop} {σ : Names} {κ : Kw} {h : Heap} {l : List (Nat × Chunk)} (hh : HpIn (fun i => i) h l) (hr : HR fr σ κ h) : HR fr σ κ (hpOf l) where
  at_ := fun i d hd => by
    obtain ⟨c, hc, hle⟩ := hh.at_ i d hd
    exact hle.at_ (hr.at_ i c hc)
  far := fun i j g hij hi hj hg => by
    cases hdi : hpOf l i with
    | none => exact absurd hdi hi
    | some d =>
      cases hdj : hpOf l j with
      | none => exact absurd hdj hj
      | some d' =>
        obtain ⟨c, hc, _⟩ := hh.at_ i d hdi
        obtain ⟨c', hc', _⟩ := hh.at_ j d' hdj
        exact hr.far i j g hij (by rw [hc]; simp) (by rw [hc']; simp) hg
  base := fun i d g hd hg => by
    obtain ⟨c, hc, _⟩ := hh.at_ i d hd
    exact hr.base i c g hc hg
def Fix.deferring (N : Nat) (base : Nat → Prop) (σ0 : Names) (κ0 : Kw) (ds : List Deferred) : Fix := { Fix.plain N base σ0 κ0 with dfs := ds }
theorem RS.startD {N : Nat} {args : List AV} {hin : List (Nat × Chunk)} {σ : Names} {κ : Kw} {vs : List Value} {fr : Nat → Prop} (ds : List Deferred) (hn : Nat.ble args.length N = true)
    (hargs : args.all (fun B => B.sup.all (fun s => Nat.blt s 8)) = true) (hhin : low hin = true)
    (hvs : All2 σ κ args vs) (hr : HR fr σ κ (hpOf hin)) (hfrb : ∀ b, fr b → b < κ.w.heap.size) :
    RS (Fix.deferring N fr σ κ ds) ⟨argE 0 args, hpOf hin, 1⟩ { tmps := vs.toArray ++ Array.replicate (N - vs.toArray.size) undef, defers := ds } κ.w := by
  obtain ⟨h1, σ', κ', hw, hR⟩ := RS.start (N := N) (fr := fr) hn hargs hhin hvs hr hfrb
  obtain ⟨D, ms, hp⟩ := hR.prot
  have hms : ms = [] := by
    have h2 : ([] : List Deferred) = ms.map mark ++ [] := hp.ds
    rw [List.append_nil] at h2
    exact List.map_eq_nil_iff.1 h2.symm
  subst hms
  exact ⟨h1, σ', κ', hw, { tmps := hR.tmps, base := hR.base, pin := hR.pin, env_ := hR.env_, hr := hR.hr, le0 := hR.le0, old := hR.old, sup := hR.sup, hsup := hR.hsup, prot := ⟨D, [], ⟨hp.bd, hp.nb, hp.far, hp.k, hp.j, rfl, hp.nodup, fun r hr => by cases hr⟩⟩ }⟩
theorem all2_low {σ σ' : Names} {κ κ' : Kw} {l : List AV} {vs : List Value} (hl : l.all (fun B => B.sup.all (fun s => Nat.blt s 8)) = true) (hσ : ∀ i, i < 8 → σ' i = σ i) (hle : κ.le κ') (h : All2 σ κ l vs) : All2 σ' κ' l vs :=
  (h.loc fun A hA i hi => hσ i (by
    have := List.all_eq_true.1 (List.all_eq_true.1 hl A hA) i hi
    simpa [Nat.blt_eq] using this)).mono hle
theorem FPure.ofD {P : Program} {f fd : FuncId} {fn : Func} {c1 c2 rest : Code} {args args' caps : List AV} {hp0 : List (Nat × Chunk)} {A : AV} {N : Nat} (dcap : Nat → List Value) (T : List Value → Nat → List Value) (wA : World → World)
    (hf : P.funcs[f]? = some fn) (hN : fn.ntmps = N) (hb : fn.body = some (.seq c1 (.seq c2 rest))) (hname : (fn.name == "runtime.NumGoroutine") = false) (hn : Nat.ble args'.length N = true) (hA : A.sup = [])
    (hargs : args'.all (fun B => B.sup.all (fun s => Nat.blt s 8)) = true) (hcaps : caps.all (fun B => B.sup.all (fun s => Nat.blt s 8)) = true) (hhp : low hp0 = true)
    (hent : ∀ (args : Array Value) (w : World), (callFunc fd args).run P w = .ok (.enter fd args) w)
    (hpre : ∀ (R : Code) (vs : List Value) (w : World) (Q : Exit → Act → World → Prop), vs.length = args.length → R.wpIn Fence.wide 0 P Q { tmps := (T vs w.heap.size).toArray ++ Array.replicate (N - (T vs w.heap.size).toArray.size) undef, defers := [{ target := .fn (.func fd) (dcap w.heap.size).toArray, args := #[] }] } (wA w) →
      (Code.seq c1 (.seq c2 R)).wpIn Fence.wide 0 P Q { tmps := vs.toArray ++ Array.replicate (N - vs.toArray.size) undef, defers := [] } w)
    (hstart : ∀ σ κ vs, All2 σ κ args vs → ∃ σ' κ', κ'.w = wA κ.w ∧ κ.le κ' ∧ (∀ b, b < κ.w.heap.size → κ'.own b = κ.own b ∧ κ'.w.heap[b]? = κ.w.heap[b]?) ∧ All2 σ' κ' args' (T vs κ.w.heap.size) ∧ HR (fun b => b < κ.w.heap.size) σ' κ' (hpOf hp0) ∧ All2 σ' κ' caps (dcap κ.w.heap.size))
    (h0 : W P N rest ⟨argE 0 args', hpOf hp0, 1⟩ (FinDQ P fn A fd caps)) : FPure P f args A where
  sup := hA
  ent := fun vs0 w => run_callFunc hf hname (by rw [hb]; rfl) vs0 w
  calls := fun σ κ vs hvs => by
    have hlen := hvs.length
    subst hN
    refine callsIn_wide.1 (callsIn_of_wp_marks (F := Fence.wide) (n := 0) hf hb trivial ?_)
    refine hpre rest vs κ.w _ hlen ?_
    obtain ⟨σ', κ', hw', hle', hold', hall', hr', hcap'⟩ := hstart σ κ vs hvs
    have hfrb : ∀ b, b < κ.w.heap.size → b < κ'.w.heap.size := fun b hb => Nat.lt_of_lt_of_le hb hle'.size
    rw [← hw']
    refine wpIn_mono (h0 _ 0 _ _ (Fix.ok_plain fun _ _ _ _ h => h) rfl (RS.startD [{ target := .fn (.func fd) (dcap κ.w.heap.size).toArray, args := #[] }] hn hargs hhp hall' hr' hfrb)) fun e a' w' ⟨st', hq, hcnt, σ2, κ2, hw, hR⟩ => ?_
    obtain ⟨ms, κ3, l1, l2, l3, l4, hR3⟩ := hR.leave
    have l1 : a'.defers = ms.map mark ++ [{ target := .fn (.func fd) (dcap κ.w.heap.size).toArray, args := #[] }] := l1
    have hpin : ∀ i, i < 8 → σ2 i = σ' i := fun i hi => hR3.pin i hi
    have hle3 : κ'.le κ3 := hR3.le0
    have hold3 : ∀ b, b < κ.w.heap.size → κ3.own b = κ'.own b ∧ κ3.w.heap[b]? = κ'.w.heap[b]? := hR3.old
    have hcap3 : All2 σ2 κ3 caps (dcap κ.w.heap.size) := all2_low hcaps hpin hle3 hcap'
    have hfr3 : ∀ b, b < κ.w.heap.size → b < κ3.w.heap.size := fun b hb => Nat.lt_of_lt_of_le (hfrb b hb) hle3.size
    have fin : ∀ (u u' : FrameMode) (hI hO : List (Nat × Chunk)), u ≠ .run → HpIn (fun i => i) st'.heap hI → low hO = true → FDef P fd caps hI u u' hO → settle u' = .returning → ResOk P fn ⟨st'.env, hpOf hO, st'.cnt⟩ A →
        LeavesInM Fence.wide 0 P fn a'.tmps (fun e w' => ∃ v κ', e = .returned v ∧ κ'.w = w' ∧ κ.le κ' ∧ (∀ b, b < κ.w.heap.size → κ'.own b = κ.own b ∧ κ'.w.heap[b]? = κ.w.heap[b]?) ∧ A.p σ κ' v) a'.defers u w' := fun u u' hI hO hu hin hlo hd hset hres => by
      rw [l1]
      refine leaves_msU hu ms w' l2 (fun r hr => by rw [← hw]; exact l3 r hr) ?_
      rw [← hw, ← l4]
      refine ⟨hu, .inr ⟨(fun h => by cases h), .func fd, (dcap κ.w.heap.size).toArray, fd, (dcap κ.w.heap.size).toArray, rfl, ?_, fun _ _ => trivial, ?_⟩⟩
      · simp [invoke, hent]
      refine (hd.calls σ2 κ3 _ _ _ hcap3 (hin.hr hR3.hr) hfr3).mono ?_
      rintro e u'' w'' ⟨rfl, rfl, κ4, rfl, hle4, hold4, hr4⟩
      have hRK : RK (Fix.plain fn.ntmps (fun b => b < κ.w.heap.size) σ2 κ4) (fun s => s / 8 < st'.cnt) st'.env (hpOf hO) { a' with defers := [] } σ2 κ4 :=
        { tmps := hR3.tmps, base := fun b hb => Nat.lt_of_lt_of_le (hfr3 b hb) hle4.size, pin := fun _ _ => rfl, env_ := fun t => (st'.env t).mono hle4 (hR3.env_ t), hr := hr4, le0 := Kw.le_refl κ4, old := fun _ _ => ⟨rfl, rfl⟩, sup := hR3.sup
          hsup := fun i ck hc => by
            have := List.all_eq_true.1 hlo (i, ck) (hpOf_mem hc)
            simp only [Bool.and_eq_true, Nat.blt_eq] at this
            refine ⟨by show i / 8 < st'.cnt; omega, fun s hs => ?_⟩
            have h1 := List.all_eq_true.1 this.2 s hs
            simp only [Nat.blt_eq] at h1
            show s / 8 < st'.cnt; omega
          prot := ⟨_, [], Prot.plain (by
            cases h0 : hpOf hO 0 with
            | none => simp [idxOf, h0]
            | some ck =>
              have := List.all_eq_true.1 hlo (0, ck) (hpOf_mem h0)
              simp at this)⟩ }
      obtain ⟨v, hv, hAv⟩ := hres.run _ _ σ2 κ4 hRK
      show LeavesInM Fence.wide 0 P fn a'.tmps _ [] (settle u'') κ4.w
      rw [hset]
      exact ⟨v, hv, v, κ4, rfl, rfl, Kw.le_trans hle' (Kw.le_trans hle3 hle4), fun b hb => ⟨(hold4 b hb).1.trans ((hold3 b hb).1.trans (hold' b hb).1), (hold4 b hb).2.trans ((hold3 b hb).2.trans (hold' b hb).2)⟩, A.loc (fun i hi => by rw [hA] at hi; cases hi) hAv⟩
    cases e with
    | normal =>
      obtain ⟨hI, h1, h2, h3, h4⟩ := hq
      exact fin _ _ hI hI (by simp) h1 h2 h3 rfl h4
    | ret =>
      obtain ⟨hI, h1, h2, h3, h4⟩ := hq
      exact fin _ _ hI hI (by simp) h1 h2 h3 rfl h4
    | panic ch =>
      obtain ⟨hI, hO, u', h1, _, h3, h4, h5, h6⟩ := hq
      exact fin _ _ hI hO (by simp) h1 h3 h4 h5 h6
    | exit _ => exact hq.elim
    | goto _ => exact hq.elim
    | outgrown => exact hq.elim
/-! ### a deferred function's body, with marks -/
theorem marks_steps {P : Program} {F : Fence} {n : Nat} : ∀ (ms : List Nat) (w : World) (fr : Frame) (cs : List Frame), fr.mode = .returning → fr.defers = ms.map mark → F.fn fr.fn → F.room (cs.length + 1 + n) → ms.Nodup → (∀ r, r ∈ ms → w.heap[r]? = some (.deferred (some []))) →
    StepsIn (Machine.fenced P F) P (lone fr cs w) (lone { fr with defers := [] } cs (shut w ms))
  | [], w, fr, cs, _, hd, _, _, _, _ => by
    have : ({ fr with defers := [] } : Frame) = fr := by
      have hd : fr.defers = [] := hd
      cases fr; simp_all
    rw [this]; exact StepsIn.refl _
  | r :: ms, w, fr, cs, hm, hd, hF, hroom, hn, hr => by
    obtain ⟨h1, h2⟩ := List.nodup_cons.1 hn
    have hrun : fr.mode ≠ .run := by rw [hm]; simp
    have hs := step_collected (P := P) (cs := cs) (w := w) hrun hd rfl (run_takeDeferred (hr r (by simp)))
    have i1 : (lone fr cs w).fenced P F := fenced_out hF hroom hrun hd (fun g hg => by simp [mark, Target.leads] at hg)
    refine StepsIn.head i1 hs ?_
    exact marks_steps ms (w.putObj r (.deferred none)) { fr with defers := [] ++ ms.map mark } cs hm rfl hF hroom h2 (fun r' hr' => by
      rw [World.putObj_heap_other (fun e => h1 (by rw [← e]; exact hr'))]
      exact hr r' (by simp [hr']))
def bodyPostSM (P : Program) (fn : Func) (c₀ : Frame) (cs : List Frame) (R : Ending → FrameMode → World → Prop) (e : Exit) (a : Act) (cs' : List Frame) (w : World) : Prop :=
  (e = .normal ∨ e = .ret) ∧ ∃ ms u', a.defers = ms.map mark ∧ ms.Nodup ∧ (∀ r, r ∈ ms → w.heap[r]? = some (.deferred (some []))) ∧ cs' = { c₀ with mode := u' } :: cs ∧ ∃ v, (results fn a.tmps).run P (shut w ms) = .ok v (shut w ms) ∧ R (.returned v) u' (shut w ms)
theorem wpIn_act {F : Fence} {n : Nat} {P : Program} {c : Code} {Q : Exit → Act → World → Prop} {a a' : Act} {w : World} (h : a = a') (h2 : c.wpIn F n P Q a' w) : c.wpIn F n P Q a w := h ▸ h2
theorem wp_act {P : Program} {c : Code} {Q : Exit → Act → World → Prop} {a a' : Act} {w w' : World} (h : a = a') (hw : w = w') (h2 : c.wp P Q a' w') : c.wp P Q a w := h ▸ hw ▸ h2
theorem callsDIn_of_wpSM {P : Program} {F : Fence} {n : Nat} {f : FuncId} {fn : Func} {c : Code} {args : Array Value} {u : FrameMode} {w : World} {R : Ending → FrameMode → World → Prop}
    (hf : P.funcs[f]? = some fn) (hb : fn.body = some c) (hF : F.fn f)
    (h : ∀ (c₀ : Frame) (cs : List Frame), c₀.mode = u →
      c.wpSIn F n P (bodyPostSM P fn c₀ cs R) { tmps := args ++ Array.replicate (fn.ntmps - args.size) undef, defers := [] } (c₀ :: cs) w) :
    CallsDIn F n P f args u w R := by
  refine ⟨hF, fun c₀ cs hu hroom => ?_⟩
  let b : Frame := { (default : Frame) with fn := f, kind := .deferred, roundOf := none }
  have henter : Frame.enter P f args .deferred =
      b.atR { tmps := args ++ Array.replicate (fn.ntmps - args.size) undef, defers := [] } [.code c] := by
    simp [Frame.enter, Frame.atR, hf, hb, b]
  obtain ⟨e, a', cs', w', hl, ⟨he, ms, u', hd, hnd, hms, rfl, v, hr, hR⟩, harr⟩ := h c₀ cs hu b [] rfl rfl hF hroom
  rw [← henter] at harr
  rcases he with rfl | rfl
  · exact ⟨.returned v, u', shut w' ms, _, hR, StepsIn.trans (StepsIn.trans harr (.one (fenced_calm (fr := b.atR a' []) hF hroom rfl) (stepR_end rfl))) (marks_steps (n := n) ms w' _ _ rfl hd hF hroom hnd hms), rfl, rfl, rfl, rfl, fn, hf, hr⟩
  · obtain ⟨todo, hs⟩ := harr.1 rfl
    exact ⟨.returned v, u', shut w' ms, _, hR, StepsIn.trans hs (marks_steps (n := n) ms w' _ _ rfl hd hF hroom hnd hms), rfl, rfl, rfl, rfl, fn, hf, hr⟩
theorem HR.congr {fr : Nat → Prop} {σ σ' : Names} {κ : Kw} {h : Heap} (hr : HR fr σ κ h) (hσ : ∀ i c, h i = some c → σ' i = σ i ∧ ∀ s ∈ c.sup, σ' s = σ s) : HR fr σ' κ h where
  at_ := fun i c hc => by
    rw [(hσ i c hc).1]
    exact Chunk.loc (hσ i c hc).2 (hr.at_ i c hc)
  far := fun i j g hij hi hj hg => by
    cases hci : h i with
    | none => exact absurd hci hi
    | some c =>
      cases hcj : h j with
      | none => exact absurd hcj hj
      | some d =>
        rw [(hσ i c hci).1] at hg
        rw [(hσ j d hcj).1]
        exact hr.far i j g hij hi hj hg
  base := fun i c g hc hg => by
    rw [(hσ i c hc).1] at hg
    exact hr.base i c g hc hg
theorem low_sup {l : List (Nat × Chunk)} (h : low l = true) {i : Nat} {c : Chunk} (hc : hpOf l i = some c) : 0 < i ∧ i < 8 ∧ ∀ s ∈ c.sup, s < 8 := by
  have := List.all_eq_true.1 h (i, c) (hpOf_mem hc)
  simp only [Bool.and_eq_true, Nat.blt_eq] at this
  exact ⟨this.1.1, this.1.2, fun s hs => by
    have h1 := List.all_eq_true.1 this.2 s hs
    simpa [Nat.blt_eq] using h1⟩
/-- one more variable, by a name of its own -/
theorem hr_more {fr : Nat → Prop} {σ : Names} {κ : Kw} {l : List (Nat × Chunk)} (hr : HR fr σ κ (hpOf l)) (_hl : low l = true) (hfr : ∀ b, fr b → b < κ.w.heap.size) (i : Nat) (t : TypeId) (us : List Value) (hi : hpOf l i = none) (hs : ∀ j c, hpOf l j = some c → i ∉ c.sup) :
    HR fr (upd σ i (.pointer (some ⟨κ.w.heap.size, 0, none⟩))) (κ.new (.cells us.toArray t) (some 0)) (hpOf (l ++ [(i, .var t (us.map Is))])) := by
  have hat := κ.new_at (.cells us.toArray t) (some 0)
  have key : ∀ j, hpOf (l ++ [(i, Chunk.var t (us.map Is))]) j = if j = i then some (.var t (us.map Is)) else hpOf l j := by
    have gen : ∀ (l : List (Nat × Chunk)) (j : Nat), hpOf l i = none → hpOf (l ++ [(i, Chunk.var t (us.map Is))]) j = if j = i then some (.var t (us.map Is)) else hpOf l j := by
      intro l
      induction l with
      | nil =>
        intro j _
        by_cases e : j = i
        · subst e; simp [hpOf, upd_same]
        · simp [hpOf, upd_other _ _ _ _ e, e]
      | cons x l ih =>
        obtain ⟨k, c⟩ := x
        intro j hn
        have hki : i ≠ k := fun e => by subst e; simp [hpOf, upd_same] at hn
        have hn' : hpOf l i = none := by simpa [hpOf, upd_other _ _ _ _ hki] using hn
        by_cases e : j = k
        · subst e
          simp [hpOf, upd_same, Ne.symm hki]
        · simp only [List.cons_append, hpOf, upd_other _ _ _ _ e]
          exact ih j hn'
    exact fun j => gen l j hi
  have hlt : ∀ j c, hpOf l j = some c → j ≠ i := fun j c hc e => by subst e; rw [hi] at hc; cases hc
  refine ⟨fun j c hc => ?_, fun j k g hjk hj hk hg => ?_, fun j c g hc hg => ?_⟩
  · rw [key] at hc
    by_cases e : j = i
    · subst e
      rw [if_pos rfl] at hc; cases hc
      rw [upd_same]
      exact ⟨κ.w.heap.size, us.toArray, rfl, hat.1, by simpa using all2_is us, hat.2⟩
    · rw [if_neg e] at hc
      rw [upd_other _ _ _ _ e]
      have h1 := hr.at_ j c hc
      refine Chunk.loc (σ := σ) (fun s hs' => upd_other _ _ _ _ (fun e2 => hs j c hc (e2 ▸ hs'))) (Chunk.keep (κ.new_le _ _) (fun g hg => ?_) h1)
      have := κ.new_old (.cells us.toArray t) (some 0) g (blk_lt hr hc hg)
      exact ⟨this.2, this.1⟩
  · have hne : ∀ m, hpOf (l ++ [(i, Chunk.var t (us.map Is))]) m ≠ none → m ≠ i → ∃ c, hpOf l m = some c := fun m hm e => by
      rw [key, if_neg e] at hm
      cases h : hpOf l m with
      | none => exact absurd h hm
      | some c => exact ⟨c, rfl⟩
    by_cases ej : j = i
    · subst ej
      rw [upd_same] at hg
      have hg' : κ.w.heap.size = g := Option.some.inj hg
      obtain ⟨c, hc⟩ := hne k hk (Ne.symm hjk)
      rw [upd_other _ _ _ _ (Ne.symm hjk)]
      intro h2
      have := blk_lt hr hc h2; omega
    · obtain ⟨c, hc⟩ := hne j hj ej
      rw [upd_other _ _ _ _ ej] at hg
      by_cases ek : k = i
      · subst ek
        rw [upd_same]
        intro h2
        have hg' : κ.w.heap.size = g := Option.some.inj h2
        have := blk_lt hr hc hg; omega
      · obtain ⟨d, hd⟩ := hne k hk ek
        rw [upd_other _ _ _ _ ek]
        exact hr.far j k g hjk (by rw [hc]; simp) (by rw [hd]; simp) hg
  · rw [key] at hc
    by_cases e : j = i
    · subst e
      rw [upd_same] at hg
      have hg' : κ.w.heap.size = g := Option.some.inj hg
      intro hb; have := hfr g hb; omega
    · rw [if_neg e] at hc
      rw [upd_other _ _ _ _ e] at hg
      exact hr.base j c g hc hg
theorem Valid.build23 {P : Program} {nid : Nat} {o : Oper} {ρ : Operand → AV} {h : Heap} {t : TypeId} {parts : Array (Nat × Operand)} {a b : Value} (z : Value) (ho : o.op = .build t parts)
    (hp : parts.toList.map (fun x => (x.1, ρ x.2)) = [(0, Is a), (1, Is b)])
    (hrun : ∀ w : World, (Instr.build t #[(0, a), (1, b)]).run P w = .ok (.agg #[a, b, z]) w) : Valid P nid o ρ h ⟨Agg [Is a, Is b, Is z], [], []⟩ :=
  Valid.build [(0, a), (1, b)] [a, b, z] ho hp hrun
end Ab
end Go.Proofs.Ytdcenocljnlipaa

namespace Go.Proofs.Ytdcenocljnlipaa
open Go.RowKit
namespace Ab
theorem Valid.litownP {P : Program} {nid : Nat} {o : Oper} {ρ : Operand → AV} {h : Heap} {t el : TypeId} {n : Nat} {parts : Array (Nat × Operand)} (L : List (ByteArray × Int)) (ho : o.op = .buildSlice t n parts)
    (hp : parts.toList.map (fun x => (x.1, ρ x.2)) = (ppairs 0 L).map (fun x => (x.1, Agg [Is (.string x.2.1), Is (.int .i64 x.2.2)])))
    (hrun : ∀ w : World, (Instr.buildSlice t n ((ppairs 0 L).map (fun x => (x.1, .agg #[.string x.2.1, .int .i64 x.2.2]))).toArray).run P w = .ok (.slice (some ⟨w.heap.size, 0, none⟩) n n) (w.alloc (.cells (pcells L).toArray el))) (hl : L.length = n) (hn : n ≤ maxLen) :
    Valid P nid o ρ h ⟨Own (8 * nid) 2 n (pcells L), [], [(8 * nid, some (.row el 2 n (pcells L)))]⟩ :=
  .freshown (fun σ κ a hops => by
    have hv : (parts.map fun x => (x.1, a.eval x.2)) = ((ppairs 0 L).map (fun x => (x.1, Value.agg #[.string x.2.1, .int .i64 x.2.2]))).toArray := by
      apply Array.ext'
      rw [Array.toList_map]
      exact ppairs_known parts.toList _ (fun x hx => hops x.2 (by rw [ho]; simp [Op.operands]; exact ⟨x.1, by simpa using hx⟩)) hp
    unfold execOp
    rw [ho]
    simp only [hv, hrun, Sem.run_bind, Result.andThen_ok, Sem.run_pure]) (by rw [pcells_len, hl]) hn
end Ab
end Go.Proofs.Ytdcenocljnlipaa

namespace Go.Proofs.Ytdcenocljnlipaa
open Go.RowKit
namespace Ab
/-- a buffer of structs, or nil -/
def Bfz (id n : Nat) : AV := ⟨fun σ _ u => u = σ id ∧ ∃ a c, u = .slice a n c, [id],
  fun hs ⟨h1, h2⟩ => ⟨h1.trans (hs id (by simp)).symm, h2⟩, fun _ h => h⟩
theorem leq_bfz {θ : Nat → Nat} {A B : AV} {id id' n n' : Nat} (h : A = Bfz id n) (h' : B = Bfz id' n') (hθ : Nat.beq (θ id') id = true) (e : n = n') : A.leq θ B := fun σ κ u hu => by
  subst h h' e
  have := Nat.eq_of_beq_eq_true hθ
  subst this; exact hu
theorem up_bfz {θ : Nat → Nat} {id id' n : Nat} (h : Nat.beq (θ id) id' = true) : AV.up θ (Bfz id n) (Bfz id' n) := by
  have := Nat.eq_of_beq_eq_true h
  subst this; exact fun _ _ _ h => h
theorem One.bfz {A : AV} {id n : Nat} (h : A = Bfz id n) : One A := fun σ κ u hu => by
  subst h
  obtain ⟨_, a, c, rfl⟩ := hu
  exact ⟨rfl, rfl⟩
theorem leq_isfn {θ : Nat → Nat} {A B : AV} {f : FuncId} (h : A = Is (.func (.func f) #[] #[])) (h' : B = FnV f [] []) : A.leq θ B := fun σ κ u hu => by
  subst h h'
  exact ⟨[], [], hu, trivial, trivial⟩
section
variable {P : Program} {nid : Nat} {o : Oper} {ρ : Operand → AV} {h : Heap}
theorem cup_bfe {θ : Nat → Nat} {t : TypeId} {e : Nat} {l : List Value} : ChunkUp θ (.bfe t e l) (.bfe t e l) := fun _ _ _ h => h
theorem hp_bfe {hp : Heap} {θ : Nat → Nat} {k : Nat} {t : TypeId} {e : Nat} {l l' : List Value} (h : hp (θ k) = some (.bfe t e l)) (he : l = l') : ∃ c, hp (θ k) = some c ∧ Chunk.leq θ c (.bfe t e l') := ⟨_, h, .bfe he⟩
theorem Valid.newbfe {el : TypeId} {e n : Nat} {l : List Value}
    (hrun : ∀ σ (κ : Kw) (a : Act), (∀ x ∈ o.op.operands, (ρ x).p σ κ (a.eval x)) → ∃ c κ', (execOp a.eval o).run P κ.w = .ok (.value (.slice (some ⟨κ.w.heap.size, 0, none⟩) n c)) κ'.w ∧ κ.le κ' ∧ (Chunk.bfe el e l).at σ κ' (.slice (some ⟨κ.w.heap.size, 0, none⟩) n c) ∧ (∀ b, b < κ.w.heap.size → κ'.own b = κ.own b ∧ κ'.w.heap[b]? = κ.w.heap[b]?) ∧ n ≤ c) :
    Valid P nid o ρ h ⟨Bfz (8 * nid) n, [], [(8 * nid, some (.bfe el e l))]⟩ where
  run := fun base σ κ h' a next Q hops hrd hr hbase _ hfr hk => by
    have hid8 : 8 * nid / 8 = nid := by omega
    obtain ⟨c, κ', hrun', hle, hc, hold, hlc⟩ := hrun σ κ a hops
    unfold Oper.wp
    rw [hrun']
    refine hk _ (upd σ (8 * nid) (.slice (some ⟨κ.w.heap.size, 0, none⟩) n c)) κ' hle (fun b hb' => hold b (hbase b hb')) (fun i hi => upd_other _ _ _ _ (fun e => hi (by omega))) ⟨(upd_same _ _ _).symm, _, c, rfl⟩ ?_
    refine hr.set hle (8 * nid) _ (.bfe el e l) (fun _ => false) (fun i d hd hi _ g hg => ?_) hc (fun i g hi hi8 _ hg he => ?_) (fun g hg => ?_) (fun i d hd _ _ j hj => upd_other _ _ _ _ (fun e => (hfr i d hd).2 j hj (by omega))) _ (upd_same _ _ _) (fun i hi _ => upd_other _ _ _ _ hi) (fun i _ hf => by cases hf)
    · have := hold g (blk_lt hr hd hg)
      exact ⟨this.2, this.1⟩
    · cases hd : h' i with
      | none => exact hi hd
      | some d =>
        have he' : κ.w.heap.size = g := Option.some.inj he
        have := blk_lt hr hd hg; omega
    · have hg' : κ.w.heap.size = g := Option.some.inj hg
      intro hbg; have := hbase _ hbg; omega
  sup := fun U _ _ => ⟨fun s hs => .inr (by have : s ∈ [8 * nid] := hs; simp at this; omega), fun i c hc s hs => by
    simp only [List.mem_singleton, Prod.mk.injEq, Option.some.injEq] at hc
    obtain ⟨_, rfl⟩ := hc
    cases hs⟩
  wr := fun x hx => by simp at hx; subst hx; exact .inr (by simp)
theorem Valid.growbfe {id : Nat} {el : TypeId} {e n : Nat} {xs l : List Value} (hh : h id = some (.bfe el e xs))
    (hrun : ∀ σ (κ : Kw) (a : Act), (∀ x ∈ o.op.operands, (ρ x).p σ κ (a.eval x)) → (Chunk.bfe el e xs).at σ κ (σ id) → ∃ b c κ', (execOp a.eval o).run P κ.w = .ok (.value (.slice (some ⟨b, 0, none⟩) n c)) κ'.w ∧ κ.le κ' ∧ (Chunk.bfe el e l).at σ κ' (.slice (some ⟨b, 0, none⟩) n c) ∧ (∀ g, g < κ.w.heap.size → blk (σ id) ≠ some g → κ'.own g = κ.own g ∧ κ'.w.heap[g]? = κ.w.heap[g]?) ∧ (blk (σ id) = some b ∨ b = κ.w.heap.size) ∧ n ≤ c) :
    Valid P nid o ρ h ⟨Bfz (8 * nid) n, [id], [(id, none), (8 * nid, some (.bfe el e l))]⟩ where
  run := fun base σ κ h' a next Q hops hrd hr hbase _ hfr hk => by
    have hid : h' id = some (.bfe el e xs) := by rw [hrd id (by simp), hh]
    have hid8 : 8 * nid / 8 = nid := by omega
    have hne : id ≠ 8 * nid := fun e => (hfr id _ hid).1 (by rw [e]; exact hid8)
    obtain ⟨b, c, κ', hrun', hle, hc, hold, hb, hlc⟩ := hrun σ κ a hops (hr.at_ id _ hid)
    unfold Oper.wp
    rw [hrun']
    refine hk _ (upd σ (8 * nid) (.slice (some ⟨b, 0, none⟩) n c)) κ' hle (fun g hb' => hold g (hbase g hb') (fun e => ?_)) (fun i hi => upd_other _ _ _ _ (fun e => hi (by omega))) ⟨(upd_same _ _ _).symm, _, c, rfl⟩ ?_
    · exact hr.base id _ g hid e hb'
    · refine hr.set hle (8 * nid) _ (.bfe el e l) (fun i => Nat.beq i id) (fun i d hd hi hgone g hg => ?_) hc (fun i g hi hi8 hgone hg he => ?_) (fun g hg => ?_) (fun i d hd _ _ j hj => upd_other _ _ _ _ (fun e => (hfr i d hd).2 j hj (by omega))) _ ?_ ?_ ?_
      · have hiid : i ≠ id := fun e => by subst e; simp at hgone
        have := hold g (blk_lt hr hd hg) (fun e => hr.far i id g hiid (by rw [hd]; simp) (by rw [hid]; simp) hg e)
        exact ⟨this.2, this.1⟩
      · have hiid : i ≠ id := fun e => by subst e; simp at hgone
        cases hd : h' i with
        | none => exact hi hd
        | some d =>
          have he' : b = g := Option.some.inj he
          subst he'
          rcases hb with h2 | h2
          · exact hr.far i id _ hiid hi (by rw [hid]; simp) hg h2
          · have := blk_lt hr hd hg; omega
      · have hg' : b = g := Option.some.inj hg
        subst hg'
        rcases hb with h2 | h2
        · exact hr.base id _ _ hid h2
        · intro hbg; have := hbase _ hbg; omega
      · simp only [updl]; exact upd_same _ _ _
      · intro i hi hgone
        have hiid : i ≠ id := fun e => by subst e; simp at hgone
        simp only [updl]
        rw [upd_other _ _ _ _ hi, upd_other _ _ _ _ hiid]
      · intro i hi hgone
        have hiid : i = id := Nat.eq_of_beq_eq_true hgone
        subst hiid
        simp only [updl]
        rw [upd_other _ _ _ _ hi, upd_same]
  sup := fun U _ _ => ⟨fun s hs => .inr (by have : s ∈ [8 * nid] := hs; simp at this; omega), fun i c hc s hs => by
    simp only [List.mem_cons, Prod.mk.injEq, List.not_mem_nil, or_false] at hc
    rcases hc with ⟨_, hc⟩ | ⟨_, hc⟩
    · cases hc
    · cases hc; cases hs⟩
  wr := fun x hx => by
    simp only [List.mem_cons, List.not_mem_nil, or_false] at hx
    rcases hx with rfl | rfl
    · exact .inl ⟨by simp, by rw [hh]; simp⟩
    · exact .inr (by simp)
/-- 'append' onto nil, of structs: a buffer -/
theorem Valid.appnilE {x y : Operand} {t el : TypeId} {e m bytes : Nat} {ys : List Value} (ho : o.op = .call { callee := .builtin .append, args := #[x, y], argTypes := #[t, t] })
    (ht : P.underlying t = some (.slice el)) (hi : TI P el e bytes)
    (hx : ρ x = Is (.slice none 0 0)) (hy : Reads (ρ y) e m ys) (h0 : 0 < m) (hm : m ≤ maxLen) (hb : m * bytes ≤ 140737488355328) (_he : 0 < e) :
    Valid P nid o ρ h ⟨Bfz (8 * nid) m, [], [(8 * nid, some (.bfe el e ys))]⟩ := by
  obtain ⟨i, z, hi, hz, hsize, hby, hzs⟩ := hi
  exact .newbfe fun σ κ a hops => by
    have e1 := hops x (by rw [ho]; simp [Op.operands, Call.operands])
    have e2 := hy σ κ _ (hops y (by rw [ho]; simp [Op.operands, Call.operands]))
    rw [hx] at e1
    have e1 : a.eval x = .slice none 0 0 := e1
    obtain ⟨hul, ⟨_, h3⟩ | ⟨ad, c, hu, hc1, hc2, hrd⟩⟩ := e2
    · omega
    have hnews : ∀ j y, ys[j]? = some y → κ.w.cell? (ad.add j) = some y := fun j y hj => by
      obtain ⟨s1, s2, _⟩ := hrd j y hj
      rw [add_eq s1]; exact s2
    have hr := run_append_nil (P := P) κ.w t o.type el i z ht hi hz ad m c ys (by rw [hsize]; exact hul) hnews (by omega) (by unfold maxLen at hm; omega) (by rw [hby]; omega)
    have hge := grownCap_ge κ.w m 0 el
    have hcap := grownCap_le_maxLen κ.w m 0 el hm
    have harr : ys.toArray ++ Builtin.zeroCells z.cells (grownCap κ.w m 0 el - m) = (ys ++ (Builtin.zeroCells z.cells (grownCap κ.w m 0 el - m)).toList).toArray := by apply Array.ext'; simp
    have hat := Kw.new_at (⟨κ.w.drew, κ.own, κ.lt⟩ : Kw) (.cells (ys.toArray ++ Builtin.zeroCells z.cells (grownCap κ.w m 0 el - m)) el) (some 0)
    refine ⟨grownCap κ.w m 0 el, (⟨κ.w.drew, κ.own, κ.lt⟩ : Kw).new (.cells (ys.toArray ++ Builtin.zeroCells z.cells (grownCap κ.w m 0 el - m)) el) (some 0), ?_, Kw.drew_new_le _ _ _, .inr ⟨κ.w.heap.size, (Builtin.zeroCells z.cells (grownCap κ.w m 0 el - m)).toList, (0, 0), m, grownCap κ.w m 0 el, rfl, ?_, fun j _ hf => by omega, hul, ?_, by omega, hcap, hat.2⟩, fun b hb => Kw.new_old (⟨κ.w.drew, κ.own, κ.lt⟩ : Kw) _ _ b hb, by omega⟩
    · unfold execOp
      rw [ho]
      simp only [resolve, invoke, builtin, Sem.run_bind, Sem.run_pure, Result.andThen_ok, List.map_toArray, List.map_cons, List.map_nil, e1, hu]
      simp only [hr, Result.andThen_ok]
      rfl
    · rw [← harr]; exact hat.1
    · rw [zc_len, hzs, hul, ← Nat.add_mul]; congr 1; omega
/-- the place of an element -/
theorem Valid.idxE {x y : Operand} {t el t0 : TypeId} {n id e : Nat} {k : IntKind} {i : Int} {xs : List Value} (ho : o.op = .indexAddr t x y) (ht : P.underlying t = some (.slice el)) (hsz : ∀ w, (sizeOf el).run P w = .ok e w) (hx : ρ x = Bfz id n) (hh : h id = some (.bfe t0 e xs)) (hy : ρ y = Is (.int k i)) (hi : 0 ≤ i ∧ i < n) :
    Valid P nid o ρ h ⟨Bptr id (i.toNat * e), [id], []⟩ where
  run := fun base σ κ h' a next Q hops hrd hr hb _ _ hk => by
    have hat := hr.at_ id (.bfe t0 e xs) (by rw [hrd id (by simp), hh])
    have h1 := hops x (by rw [ho]; simp [Op.operands])
    have h2 := hops y (by rw [ho]; simp [Op.operands])
    rw [hx] at h1; rw [hy] at h2
    obtain ⟨hσ, a1, c1, hu⟩ := h1
    have h2 : a.eval y = .int k i := h2
    rcases hat with ⟨h3, _⟩ | ⟨b, tl, fr, n', c, h3, _⟩
    · rw [← hσ, hu] at h3; cases h3; omega
    rw [← hσ, hu] at h3
    simp only [Value.slice.injEq] at h3
    obtain ⟨rfl, rfl, rfl⟩ := h3
    have hv : (execOp a.eval o).run P κ.w = .ok (.value (.pointer (some ⟨b, i.toNat * e, none⟩))) κ.w := by
      unfold execOp
      rw [ho]
      simp [hu, h2, Instr.indexAt, asIntOf, run_underlying ht, hsz, hi.1, hi.2, Result.andThen, Addr.add]
      exact fun h => (by omega)
    unfold Oper.wp
    rw [hv]
    exact hk _ σ κ (Kw.le_refl κ) (fun _ _ => ⟨rfl, rfl⟩) (fun _ _ => rfl) ⟨b, n, c1, by rw [← hσ, hu], rfl⟩ hr
  sup := fun U _ hU => ⟨fun s hs => .inl (by have hs' : s ∈ [id] := hs; simp at hs'; subst hs'; exact (hU s hs _ hh).1), fun i c hc => by cases hc⟩
  wr := fun x hx => by cases hx
theorem Valid.lenZ {x : Operand} {t : TypeId} {id n : Nat} {el : TypeId} (ho : o.op = .call { callee := .builtin .len, args := #[x], argTypes := #[t] }) (ht : P.underlying t = some (.slice el)) (hx : ρ x = Bfz id n) :
    Valid P nid o ρ h ⟨Is (.int .i64 (n : Int)), [], []⟩ :=
  .quiet _ (nosup rfl) fun σ κ a hops => by
    have h1 := hops x (by rw [ho]; simp [Op.operands, Call.operands])
    rw [hx] at h1
    obtain ⟨_, b, c, hu⟩ := h1
    refine ⟨.int .i64 (n : Int), ?_, rfl⟩
    unfold execOp
    rw [ho]
    simp [resolve, invoke, builtin, Builtin.len_, run_underlying ht, hu, goInt, Result.andThen]
/-! ### literals of structs of two numbers -/
def qcells (l : List (Int × Int)) : List Value := l.flatMap fun p : Int × Int => [Value.int .i64 p.1, Value.int .i64 p.2]
theorem qcells_len : ∀ l : List (Int × Int), (qcells l).length = l.length * 2
  | [] => rfl
  | p :: l => by
    have := qcells_len l
    rw [qcells, List.flatMap_cons, List.length_append, ← qcells, this, List.length_cons]; simp; omega
def qpairs : Nat → List (Int × Int) → List (Nat × (Int × Int))
  | _, [] => []
  | k, v :: l => (k, v) :: qpairs (k + 1) l
theorem qpairs_known {σ : Names} {κ : Kw} {a : Act} : ∀ (ps : List (Nat × Operand)) (vs : List (Nat × (Int × Int))), (∀ x ∈ ps, (ρ x.2).p σ κ (a.eval x.2)) → ps.map (fun x => (x.1, ρ x.2)) = vs.map (fun x => (x.1, Agg [Is (.int .i64 x.2.1), Is (.int .i64 x.2.2)])) →
    ps.map (fun x => (x.1, a.eval x.2)) = vs.map (fun x => (x.1, .agg #[.int .i64 x.2.1, .int .i64 x.2.2])) := by
  intro ps
  induction ps with
  | nil => intro vs _ h; cases vs with
    | nil => rfl
    | cons _ _ => cases h
  | cons p ps ih =>
    intro vs h1 h2
    cases vs with
    | nil => cases h2
    | cons v vs =>
      simp only [List.map_cons, List.cons.injEq, Prod.mk.injEq] at h2 ⊢
      refine ⟨⟨h2.1.1, ?_⟩, ih vs (fun x hx => h1 x (by simp [hx])) h2.2⟩
      have h3 := h1 p (by simp)
      rw [h2.1.2] at h3
      exact agg2 h3
theorem Valid.litQ {t el : TypeId} {n : Nat} {parts : Array (Nat × Operand)} (L : List (Int × Int)) (ho : o.op = .buildSlice t n parts)
    (hp : parts.toList.map (fun x => (x.1, ρ x.2)) = (qpairs 0 L).map (fun x => (x.1, Agg [Is (.int .i64 x.2.1), Is (.int .i64 x.2.2)])))
    (hrun : ∀ w : World, (Instr.buildSlice t n ((qpairs 0 L).map (fun x => (x.1, .agg #[.int .i64 x.2.1, .int .i64 x.2.2]))).toArray).run P w = .ok (.slice (some ⟨w.heap.size, 0, none⟩) n n) (w.alloc (.cells (qcells L).toArray el))) (hl : L.length = n) (hn : n ≤ maxLen) :
    Valid P nid o ρ h ⟨Sl 2 n (qcells L), [], []⟩ :=
  .fresh _ rfl fun σ κ a hops => by
    have hv : (parts.map fun x => (x.1, a.eval x.2)) = ((qpairs 0 L).map (fun x => (x.1, Value.agg #[.int .i64 x.2.1, .int .i64 x.2.2]))).toArray := by
      apply Array.ext'
      rw [Array.toList_map]
      exact qpairs_known parts.toList _ (fun x hx => hops x.2 (by rw [ho]; simp [Op.operands]; exact ⟨x.1, by simpa using hx⟩)) hp
    refine ⟨_, κ.new (.cells (qcells L).toArray el) none, ?_, κ.new_le _ _, fun b hb => κ.new_old _ _ b hb, ⟨by rw [qcells_len, hl], .inr ⟨⟨κ.w.heap.size, 0, none⟩, n, rfl, Nat.le_refl _, hn, rd_new κ (qcells L) el⟩⟩⟩
    unfold execOp
    rw [ho]
    simp only [hv, hrun κ.w, Sem.run_bind, Result.andThen_ok, Sem.run_pure]
    rfl
/-- a call of a function value that is known, by its pure contract -/
theorem Valid.callv {f : FuncId} {fo : Operand} {xs : Array Operand} {ts : Array TypeId} {L avs : List AV} {A : AV} (ho : o.op = .call { callee := .value fo, args := xs, argTypes := ts }) (hL : CallTo ρ fo xs f L)
    (hc : FPure P f avs A) (ha : All2le (fun n => n) L avs) : Valid P nid o ρ h ⟨A, [], []⟩ where
  run := fun base σ κ h' a next Q hops _ hr hbase _ _ hk => by
    obtain ⟨vs, hvs, hrun⟩ := hL.run ho hc.ent hops
    unfold Oper.wp
    rw [hrun]
    simp only [Oper.upon]
    refine (hc.calls σ κ vs (ha.all2 hvs)).mono ?_
    rintro e w' ⟨v, κ', rfl, rfl, hle, hold, hA⟩
    exact hk v σ κ' hle (fun b hb' => hold b (hbase b hb')) (fun _ _ => rfl) hA (hr.grow hle hold)
  sup := fun U _ _ => ⟨(fun s hs => by have : s ∈ A.sup := hs; rw [hc.sup] at this; cases this), fun i c hc => by cases hc⟩
  wr := fun x hx => by cases hx
/-- 'append' onto a buffer of structs -/
theorem Valid.appE {x y : Operand} {t el : TypeId} {id n e m bytes : Nat} {xs ys : List Value} (ho : o.op = .call { callee := .builtin .append, args := #[x, y], argTypes := #[t, t] })
    (ht : P.underlying t = some (.slice el)) (hi : TI P el e bytes)
    (hx : ρ x = Bfz id n) (hh : h id = some (.bfe el e xs)) (hy : Reads (ρ y) e m ys) (h1 : ∀ u ∈ ys, u.oneCell' = true) (h0 : 0 < m) (hm : n + m ≤ maxLen) (hb : (n + m) * bytes ≤ 140737488355328) :
    Valid P nid o ρ h ⟨Bfz (8 * nid) (n + m), [id], [(id, none), (8 * nid, some (.bfe el e (xs ++ ys)))]⟩ := by
  obtain ⟨i, z, hi, hz, hsize, hby, hzs⟩ := hi
  exact .growbfe hh fun σ κ a hops hat => by
    have e1 := hops x (by rw [ho]; simp [Op.operands, Call.operands])
    have e2 := hy σ κ _ (hops y (by rw [ho]; simp [Op.operands, Call.operands]))
    rw [hx] at e1
    obtain ⟨e1, b1, c1, hb1⟩ := e1
    rcases hat with ⟨hσ, rfl⟩ | ⟨g, tl, fr, n', cap, hσ, hheap, hfr, hxl, hcl, hnc, hcm, hown⟩
    · rw [hσ] at e1
      rw [e1] at hb1
      cases hb1
      obtain ⟨hul, ⟨_, h3⟩ | ⟨ad, c, hu, hc1, hc2, hrd⟩⟩ := e2
      · omega
      have hnews : ∀ j y, ys[j]? = some y → κ.w.cell? (ad.add j) = some y := fun j y hj => by
        obtain ⟨s1, s2, _⟩ := hrd j y hj
        rw [add_eq s1]; exact s2
      have hr := run_append_nil (P := P) κ.w t o.type el i z ht hi hz ad m c ys (by rw [hsize]; exact hul) hnews (by omega) (by unfold maxLen at hm; omega) (by rw [hby]; rw [Nat.zero_add] at hb; omega)
      have hge := grownCap_ge κ.w m 0 el
      have hcap := grownCap_le_maxLen κ.w m 0 el (by omega)
      have harr : ys.toArray ++ Builtin.zeroCells z.cells (grownCap κ.w m 0 el - m) = (ys ++ (Builtin.zeroCells z.cells (grownCap κ.w m 0 el - m)).toList).toArray := by apply Array.ext'; simp
      have hat := Kw.new_at (⟨κ.w.drew, κ.own, κ.lt⟩ : Kw) (.cells (ys.toArray ++ Builtin.zeroCells z.cells (grownCap κ.w m 0 el - m)) el) (some 0)
      rw [List.nil_append, Nat.zero_add]
      refine ⟨κ.w.heap.size, grownCap κ.w m 0 el, (⟨κ.w.drew, κ.own, κ.lt⟩ : Kw).new (.cells (ys.toArray ++ Builtin.zeroCells z.cells (grownCap κ.w m 0 el - m)) el) (some 0), ?_, Kw.drew_new_le _ _ _, .inr ⟨κ.w.heap.size, (Builtin.zeroCells z.cells (grownCap κ.w m 0 el - m)).toList, (0, 0), m, grownCap κ.w m 0 el, rfl, ?_, fun j _ hf => by omega, hul, ?_, by omega, hcap, hat.2⟩, fun b hb _ => Kw.new_old (⟨κ.w.drew, κ.own, κ.lt⟩ : Kw) _ _ b hb, .inr rfl, by omega⟩
      · unfold execOp
        rw [ho]
        simp only [resolve, invoke, builtin, Sem.run_bind, Sem.run_pure, Result.andThen_ok, List.map_toArray, List.map_cons, List.map_nil, e1, hu]
        simp only [hr, Result.andThen_ok]
        rfl
      · rw [← harr]; exact hat.1
      · rw [zc_len, hzs, hul, ← Nat.add_mul]; congr 1; omega
    rw [hσ] at e1
    rw [e1] at hb1
    simp only [Value.slice.injEq] at hb1
    obtain ⟨rfl, rfl, rfl⟩ := hb1
    obtain ⟨hul, ⟨_, h3⟩ | ⟨ad, c, hu, hc1, hc2, hrd⟩⟩ := e2
    · omega
    have hlen2 : (xs ++ ys).length = (n' + m) * e := by rw [List.length_append, Nat.add_mul, hxl, hul]
    have hnews : ∀ j y, ys[j]? = some y → κ.w.cell? (ad.add j) = some y := fun j y hj => by
      obtain ⟨s1, s2, _⟩ := hrd j y hj
      rw [add_eq s1]; exact s2
    have hblk : blk (σ id) = some g := by rw [hσ]; rfl
    have hm' : ((n' + m : Nat) : Int) ≤ 9223372036854775807 := by unfold maxLen at hm; omega
    by_cases hroom : n' + m ≤ cap
    · have hmul := Nat.mul_le_mul_right e hroom
      rw [Nat.add_mul] at hmul
      have hr := run_append_room_fr (P := P) κ.w t o.type el i ht hi g n' cap ad m c ys (by rw [hsize]; exact hul) hnews h1 (xs ++ tl).toArray el fr hheap hroom (fun j h6 h7 => hfr j (by rw [hsize] at h7; omega)) (by rw [hsize]; simp; omega)
      have ecut : (xs ++ tl).take (n' * e) ++ ys ++ (xs ++ tl).drop (n' * e + ys.length) = xs ++ ys ++ tl.drop ys.length := by
        rw [← hxl, List.take_left, List.drop_append, List.drop_of_length_le (by omega), List.nil_append, show xs.length + ys.length - xs.length = ys.length by omega]
      rw [hsize, show (xs ++ tl).toArray.toList = xs ++ tl from rfl, ecut] at hr
      let κ' : Kw := ⟨κ.w.setRow g (xs ++ ys ++ tl.drop ys.length).toArray, κ.own, fun b k hb => by rw [size_setRow]; exact κ.lt b k hb⟩
      have hle : κ.le κ' := ⟨rfl, rfl, rfl, by show κ.w.heap.size ≤ _; rw [size_setRow]; exact Nat.le_refl _,
        fun b _ hb => ⟨hb, setRow_other _ _ _ _ (fun e => by subst e; rw [hown] at hb; cases hb)⟩,
        fun b k hb => ⟨fun k' hk' => by have : κ.own b = some k' := hk'; rw [hb] at this; cases this; exact Nat.le_refl _, fun j u hj hu => by
          have hgb : b ≠ g := fun e => by subst e; rw [hown] at hb; cases hb; omega
          simp only [World.cell?] at hu ⊢
          rw [show κ'.w.heap[b]? = κ.w.heap[b]? from setRow_other _ _ _ _ hgb]
          exact hu⟩⟩
      refine ⟨g, cap, κ', ?_, hle, .inr ⟨g, tl.drop ys.length, fr, n' + m, cap, rfl, setRow_heap _ _ _ _ _ _ hheap, hfr, hlen2, ?_, hroom, hcm, hown⟩, fun b _ hne => ?_, .inl hblk, hroom⟩
      · unfold execOp
        rw [ho]
        simp only [resolve, invoke, builtin, Sem.run_bind, Sem.run_pure, Result.andThen_ok, List.map_toArray, List.map_cons, List.map_nil, e1, hu, hr]
        rfl
      · rw [hlen2, List.length_drop, Nat.add_mul]; omega
      · have hbg : b ≠ g := fun e => hne (by rw [hblk, e])
        exact ⟨rfl, setRow_other _ _ _ _ hbg⟩
    · have holds : ∀ j u, xs[j]? = some u → κ.w.cell? ((⟨g, 0, none⟩ : Addr).add j) = some u := fun j u hj => by
        have e : (⟨g, 0, none⟩ : Addr).add j = ⟨g, j, none⟩ := by unfold Addr.add; split <;> simp_all
        have hjl := (List.getElem?_eq_some_iff.1 hj).1
        rw [e, cell_of_row _ _ _ _ _ _ hheap, List.getElem?_toArray, List.getElem?_append_left hjl]
        exact hj
      have hr := run_append_grow (P := P) κ.w t o.type el i z ht hi hz ⟨g, 0, none⟩ n' cap xs (by rw [hsize]; exact hxl) holds ad m c ys (by rw [hsize]; exact hul) hnews (by omega) hm' (growslice_fits (by omega) (by rw [hby]; exact hb))
      have hge := grownCap_ge κ.w (n' + m) cap el
      have hcap := grownCap_le_maxLen κ.w (n' + m) cap el hm
      have hat := Kw.new_at (⟨κ.w.drew, κ.own, κ.lt⟩ : Kw) (.cells (xs.toArray ++ ys.toArray ++ Builtin.zeroCells z.cells (grownCap κ.w (n' + m) cap el - (n' + m))) el) (some 0)
      have harr : xs.toArray ++ ys.toArray ++ Builtin.zeroCells z.cells (grownCap κ.w (n' + m) cap el - (n' + m)) = (xs ++ ys ++ (Builtin.zeroCells z.cells (grownCap κ.w (n' + m) cap el - (n' + m))).toList).toArray := by apply Array.ext'; simp
      refine ⟨κ.w.heap.size, grownCap κ.w (n' + m) cap el, _, ?_, Kw.drew_new_le _ _ _, .inr ⟨κ.w.heap.size, (Builtin.zeroCells z.cells (grownCap κ.w (n' + m) cap el - (n' + m))).toList, (0, 0), n' + m, _, rfl, by rw [← harr]; exact hat.1, fun j _ hf => by omega, hlen2, ?_, by omega, hcap, hat.2⟩, fun b hb _ => Kw.new_old (⟨κ.w.drew, κ.own, κ.lt⟩ : Kw) _ _ b hb, .inr rfl, by omega⟩
      · unfold execOp
        rw [ho]
        simp only [resolve, invoke, builtin, Sem.run_bind, Sem.run_pure, Result.andThen_ok, List.map_toArray, List.map_cons, List.map_nil, e1, hu, hr]
        rfl
      · rw [hlen2, zc_len, hzs, ← Nat.add_mul]; congr 1; omega
/-- cut at its end -/
theorem Valid.cuttoE {x z : Operand} {t el : TypeId} {id n e : Nat} {k' : IntKind} {j : Int} {xs : List Value} (ho : o.op = .slice t x none (some z) none) (ht : P.underlying t = some (.slice el)) (hsz : ∀ w, (sizeOf el).run P w = .ok e w) (hx : ρ x = Bfz id n) (hh : h id = some (.bfe el e xs)) (hz : ρ z = Is (.int k' j))
    (hi : 0 ≤ j ∧ j ≤ n) (h0 : 0 < n) : Valid P nid o ρ h ⟨Bfz (8 * nid) j.toNat, [id], [(id, none), (8 * nid, some (.bfe el e (xs.take (j.toNat * e))))]⟩ :=
  .growbfe hh fun σ κ a hops hat => by
    have h1 := hops x (by rw [ho]; simp [Op.operands])
    have h3 := hops z (by rw [ho]; simp [Op.operands])
    rw [hx] at h1; rw [hz] at h3
    obtain ⟨e1, b1, c1, hb1⟩ := h1
    rcases hat with ⟨hσ, rfl⟩ | ⟨b, tl, fr, n', c, hσ, hheap, hfr, hxl, hcl, hnc, hcm, hown⟩
    · rw [hσ] at e1
      rw [e1] at hb1
      cases hb1; omega
    rw [hσ] at e1
    rw [e1] at hb1
    simp only [Value.slice.injEq] at hb1
    obtain ⟨rfl, rfl, rfl⟩ := hb1
    have h3 : a.eval z = .int k' j := h3
    have e2 : (Instr.sliceBound (.int k' j) c .sliceAcap).run P κ.w = .ok j.toNat κ.w := run_sliceBound k' j c _ (by omega) (by omega) _
    have hle := Nat.mul_le_mul_right e (show j.toNat ≤ n' by omega)
    refine ⟨b, c, κ, ?_, Kw.le_refl κ, .inr ⟨b, xs.drop (j.toNat * e) ++ tl, fr, j.toNat, c, rfl, ?_, hfr, ?_, ?_, by omega, hcm, hown⟩, fun _ _ _ => ⟨rfl, rfl⟩, .inl (by rw [hσ]; rfl), by omega⟩
    · unfold execOp
      rw [ho]
      simp [e1, h3, Instr.sliceAt, Instr.slice, Instr.sliceBounds, run_underlying ht, e2, hsz, Result.andThen, Addr.add]
    · rw [hheap, ← List.append_assoc, List.take_append_drop]
    · rw [List.length_take]; omega
    · rw [List.length_take, List.length_append, List.length_drop]; omega
theorem Valid.cuttoF {G : Type} {f : G → List Value} {l : List G} {x z : Operand} {t el : TypeId} {id n e : Nat} {k' : IntKind} {j : Int} (ho : o.op = .slice t x none (some z) none) (hf : ∀ g, (f g).length = e) (ht : P.underlying t = some (.slice el)) (hsz : ∀ w, (sizeOf el).run P w = .ok e w) (hx : ρ x = Bfz id n) (hh : h id = some (.bfe el e (l.flatMap f))) (hz : ρ z = Is (.int k' j))
    (hi : 0 ≤ j ∧ j ≤ n) (h0 : 0 < n) (hl : n = l.length) : Valid P nid o ρ h ⟨Bfz (8 * nid) j.toNat, [id], [(id, none), (8 * nid, some (.bfe el e ((l.take j.toNat).flatMap f)))]⟩ := by
  have hv := Valid.cuttoE (P := P) (nid := nid) (h := h) ho ht hsz hx hh hz hi h0
  rwa [(flat_take hf l j.toNat (by omega)).1] at hv
theorem Valid.bferead {id e : Nat} {t : TypeId} {l : List Value} (A : AV) (hA : A.sup = []) (hh : h id = some (.bfe t e l))
    (hrun : ∀ σ (κ : Kw) (a : Act), (∀ x ∈ o.op.operands, (ρ x).p σ κ (a.eval x)) → (Chunk.bfe t e l).at σ κ (σ id) → ∃ v, (execOp a.eval o).run P κ.w = .ok (.value v) κ.w ∧ A.p σ κ v) : Valid P nid o ρ h ⟨A, [id], []⟩ where
  run := fun base σ κ h' a next Q hops hrd hr hb _ _ hk => by
    obtain ⟨v, hv, hAv⟩ := hrun σ κ a hops (hr.at_ id (.bfe t e l) (by rw [hrd id (by simp), hh]))
    unfold Oper.wp
    rw [hv]
    exact hk v σ κ (Kw.le_refl κ) (fun _ _ => ⟨rfl, rfl⟩) (fun _ _ => rfl) hAv hr
  sup := fun U _ _ => ⟨nosup hA, fun i c hc => by cases hc⟩
  wr := fun x hx => by cases hx
theorem is_sup (l : List Value) : (l.map Is).flatMap AV.sup = [] := by induction l <;> simp_all [Is]
theorem is_all {σ : Names} {κ : Kw} : ∀ l : List Value, All2 σ κ (l.map Is) l
  | [] => trivial
  | _ :: l => ⟨rfl, is_all l⟩
/-- an element, whole -/
theorem Valid.loadE {G : Type} {f : G → List Value} {l : List G} {e : Nat} (d : G) {t t0 : TypeId} {x : Operand} {id off : Nat} (i : Nat) (ho : o.op = .load t x) (hf : ∀ g, (f g).length = e) (hag : ∀ w, (isAgg t).run P w = .ok true w) (hsz : ∀ w, (sizeOf t).run P w = .ok e w) (hx : ρ x = Bptr id off) (ho2 : off = i * e) (hh : h id = some (.bfe t0 e (l.flatMap f))) (hi : i < l.length) :
    Valid P nid o ρ h ⟨Agg ((f (l.getD i d)).map Is), [id], []⟩ :=
  .bferead _ (is_sup _) hh fun σ κ a hops hat => by
    have h1 := hops x (by rw [ho]; simp [Op.operands])
    rw [hx] at h1
    obtain ⟨b, n', c', hσ, hu⟩ := h1
    rcases hat with ⟨hσ2, _⟩ | ⟨b2, tl, fr, n2, c, hσ2, hheap, _⟩
    · rw [hσ] at hσ2; cases hσ2
    rw [hσ] at hσ2
    simp only [Value.slice.injEq, Option.some.injEq, Addr.mk.injEq] at hσ2
    obtain ⟨⟨rfl, _⟩, _⟩ := hσ2
    have hcut := flat_cut hf d hi
    have hc := run_loadCells_list (P := P) (w := κ.w) ⟨b, off, none⟩ (f (l.getD i d)) (fun j v hj => by
      have e1 : (⟨b, off, none⟩ : Addr).add j = ⟨b, off + j, none⟩ := by unfold Addr.add; split <;> simp_all
      have hjl := (List.getElem?_eq_some_iff.1 hj).1
      rw [hf] at hjl
      have hle : (i + 1) * e ≤ l.length * e := Nat.mul_le_mul_right e hi
      rw [Nat.succ_mul] at hle
      rw [e1, cell_of_row _ _ _ _ _ _ hheap, List.getElem?_toArray, List.getElem?_append_left (by rw [flat_len hf]; omega)]
      rw [← hcut, List.getElem?_take, if_pos hjl, List.getElem?_drop, ← ho2] at hj
      exact hj)
    rw [hf] at hc
    refine ⟨.agg (f (l.getD i d)).toArray, ?_, f (l.getD i d), rfl, is_all _⟩
    unfold execOp
    rw [ho]
    simp only [hu, Instr.loadAt, Instr.sureAddr, Sem.run_bind, Sem.run_pure, Result.andThen_ok, loadVar, hag, if_true, hsz, hc]
theorem Valid.bfeset {id e : Nat} {t : TypeId} {l l' : List Value} (v0 : Value) (hh : h id = some (.bfe t e l)) (hlen : l'.length = l.length)
    (hne : ∀ σ (κ : Kw) (a : Act), (∀ x ∈ o.op.operands, (ρ x).p σ κ (a.eval x)) → σ id ≠ .slice none 0 0)
    (hrun : ∀ σ (κ : Kw) (a : Act), (∀ x ∈ o.op.operands, (ρ x).p σ κ (a.eval x)) → ∀ b tl fr n c, σ id = .slice (some ⟨b, 0, none⟩) n c → κ.w.heap[b]? = some (.cells (l ++ tl).toArray t fr) → (∀ j, j < l.length → ¬ (fr.1 ≤ j ∧ j < fr.2)) →
      ((execOp a.eval o).run P κ.w = .ok .skip (κ.w.setRow b (l' ++ tl).toArray) ∧ v0 = undef)) :
    Valid P nid o ρ h ⟨Is v0, [id], [(id, some (.bfe t e l'))]⟩ where
  run := fun base σ κ h' a next Q hops hrd hr hb _ _ hk => by
    have hid : h' id = some (.bfe t e l) := by rw [hrd id (by simp), hh]
    have h2 := hr.at_ id (.bfe t e l) hid
    rcases h2 with ⟨h3, _⟩ | ⟨b, tl, fr, n, c, hσ, hheap, hfr, hxl, hc1, hnc, hc2, hown⟩
    · exact absurd h3 (hne σ κ a hops)
    have hblk : blk (σ id) = some b := by rw [hσ]; rfl
    have hlt : b < κ.w.heap.size := κ.lt b 0 hown
    have hbb : ¬ base b := hr.base id _ b hid hblk
    let κ' : Kw := ⟨κ.w.setRow b (l' ++ tl).toArray, κ.own, fun g k hg => by rw [size_setRow]; exact κ.lt g k hg⟩
    have hle : κ.le κ' := ⟨rfl, rfl, rfl, by show κ.w.heap.size ≤ _; rw [size_setRow]; exact Nat.le_refl _,
      fun g _ hg => ⟨hg, setRow_other _ _ _ _ (fun e => by subst e; rw [hown] at hg; cases hg)⟩,
      fun g k hg => ⟨fun k' hk' => by have : κ.own g = some k' := hk'; rw [hg] at this; cases this; exact Nat.le_refl _, fun j u hj hu => by
        have hgb : g ≠ b := fun e => by subst e; rw [hown] at hg; cases hg; omega
        simp only [World.cell?] at hu ⊢
        rw [show κ'.w.heap[g]? = κ.w.heap[g]? from setRow_other _ _ _ _ hgb]
        exact hu⟩⟩
    have hupd : upd σ id (σ id) = σ := by
      funext i
      by_cases e : i = id
      · subst e; rw [upd_same]
      · rw [upd_other _ _ _ _ e]
    have hres := hr.set hle id (σ id) (.bfe t e l') (fun _ => false)
        (fun i d hd hne _ g hg => ⟨setRow_other _ _ _ _ (fun e => by subst e; exact hr.far i id g hne (by rw [hd]; simp) (by rw [hid]; simp) hg hblk), rfl⟩)
        (by
          rw [hupd]
          exact .inr ⟨b, tl, fr, n, c, hσ, setRow_heap _ _ _ _ _ _ hheap, hfr, by rw [hlen]; exact hxl, by rw [hlen]; exact hc1, hnc, hc2, hown⟩)
        (fun i g hi hne _ hg => fun e => hr.far i id g hne hi (by rw [hid]; simp) hg e)
        (fun g hg => hr.base id _ g hid hg)
        (fun i d hd hne _ j hj => by rw [hupd]) (updl h' [(id, some (.bfe t e l'))]) (upd_same _ _ _) (fun i hi _ => upd_other _ _ _ _ hi) (fun i _ hf => by cases hf)
    rw [hupd] at hres
    unfold Oper.wp
    obtain ⟨h3, rfl⟩ := hrun σ κ a hops b tl fr n c hσ hheap (fun j hj => hfr j (by omega))
    rw [h3]
    exact hk undef σ κ' hle (fun g hg => ⟨rfl, setRow_other _ _ _ _ (fun e => hbb (e ▸ hg))⟩) (fun _ _ => rfl) rfl hres
  sup := fun U hV hU => ⟨nosup rfl, fun i c hc s hs => by
    simp only [List.mem_singleton, Prod.mk.injEq, Option.some.injEq] at hc
    obtain ⟨_, rfl⟩ := hc
    cases hs⟩
  wr := fun x hx => by simp at hx; subst hx; exact .inl ⟨by simp, by rw [hh]; simp⟩
/-- an element is written -/
theorem Valid.storeBE {G : Type} {f : G → List Value} {l : List G} {e : Nat} {t t0 : TypeId} {x y : Operand} {id off : Nat} (i : Nat) (v : G) (ho : o.op = .store t x y) (hf : ∀ g, (f g).length = e) (hsz : ∀ w, (sizeOf t).run P w = .ok e w) (hx : ρ x = Bptr id off) (ho2 : off = i * e) (hh : h id = some (.bfe t0 e (l.flatMap f))) (hi : i < l.length) (hy : ρ y = Agg ((f v).map Is)) (h1 : (f v).all (·.oneCell') = true) :
    Valid P nid o ρ h ⟨Is undef, [id], [(id, some (.bfe t0 e ((l.set i v).flatMap f)))]⟩ :=
  .bfeset undef hh (by rw [flat_len hf, flat_len hf, List.length_set]) (fun σ κ a hops => by
    have h2 := hops x (by rw [ho]; simp [Op.operands])
    rw [hx] at h2
    obtain ⟨b2, n', c', hσ2, hu⟩ := h2
    rw [hσ2]; intro h; cases h) fun σ κ a hops b tl fr n c hσ hheap hfr => ⟨by
    have h2 := hops x (by rw [ho]; simp [Op.operands])
    rw [hx] at h2
    obtain ⟨b2, n', c', hσ2, hu⟩ := h2
    rw [hσ] at hσ2
    simp only [Value.slice.injEq, Option.some.injEq, Addr.mk.injEq] at hσ2
    obtain ⟨⟨rfl, _⟩, _⟩ := hσ2
    have h3 := hops y (by rw [ho]; simp [Op.operands])
    rw [hy] at h3
    obtain ⟨us, h3, hus⟩ := h3
    have hus := all2_eq hus
    subst hus
    have hle : (i + 1) * e ≤ l.length * e := Nat.mul_le_mul_right e hi
    rw [Nat.succ_mul] at hle
    have hfl := flat_len hf l
    have hst := storeCells_fr (P := P) b off t0 fr (f v) 0 (l.flatMap f ++ tl).toArray κ.w hheap (fun j h6 h7 => hfr j (by rw [hf] at h7; omega)) (by rw [List.size_toArray, List.length_append, hf]; omega) (fun u hu => List.all_eq_true.1 h1 u hu)
    simp only [Nat.add_zero] at hst
    have ec := cut_app (l.flatMap f) tl (f v) off (by rw [hf]; omega)
    rw [ho2] at ec
    rw [ho2, ec, flat_set hf hi] at hst
    unfold execOp
    rw [ho]
    have hcl : (Value.agg (f v).toArray).cells = (f v).toArray := rfl
    simp only [hu, h3, Instr.storeAt, Instr.sureAddr, Sem.run_bind, Sem.run_pure, Result.andThen_ok, storeVar, hsz, hcl, List.size_toArray, hf, ne_eq, not_true_eq_false, if_false, ho2, hst], rfl⟩
end
/-- nil in a variable's cell, as a buffer of structs -/
theorem Ent.bfznilat {st : St} (id off : Nat) (t : TypeId) (e : Nat) {t0 : TypeId} {cs : List AV} (hk : st.heap id = some (.var t0 cs)) (hc : cs[off]? = some (Is (.slice none 0 0))) :
    Ent st ⟨st.env, upd (upd st.heap id (some (.var t0 (cs.set off (Bfz (8 * st.cnt) 0))))) (8 * st.cnt) (some (.bfe t e [])), st.cnt + 1⟩ := by
  intro X a w ⟨hc1, σ, κ, hw, h⟩
  have hid : id / 8 < st.cnt := (h.hsup id _ hk).1
  have hne : id ≠ 8 * st.cnt := fun e => by omega
  have hfr : ∀ s, s / 8 < st.cnt → upd σ (8 * st.cnt) (.slice none 0 0) s = σ s := fun s hs => upd_other _ _ _ _ (fun e => by omega)
  have hset : ∀ (l : List AV) (us : List Value) (k : Nat), All2 σ κ l us → l[k]? = some (Is (.slice none 0 0)) → (∀ A ∈ l, ∀ s ∈ A.sup, s / 8 < st.cnt) → All2 (upd σ (8 * st.cnt) (.slice none 0 0)) κ (l.set k (Bfz (8 * st.cnt) 0)) us := by
    intro l
    induction l with
    | nil => intro us k _ hk; simp at hk
    | cons A l ih =>
      intro us k hall hk hs
      cases us with
      | nil => exact hall.elim
      | cons u us =>
        cases k with
        | zero =>
          simp only [List.getElem?_cons_zero, Option.some.injEq] at hk
          subst hk
          have hu : u = .slice none 0 0 := hall.1
          refine ⟨⟨by rw [hu, upd_same], none, 0, hu⟩, hall.2.loc fun B hB i hi => hfr i (hs B (by simp [hB]) i hi)⟩
        | succ k => exact ⟨A.loc (fun i hi => hfr i (hs A (by simp) i hi)) hall.1, ih us k hall.2 (by simpa using hk) (fun B hB => hs B (by simp [hB]))⟩
  refine ⟨Nat.le_succ_of_le hc1, upd σ (8 * st.cnt) (.slice none 0 0), κ, hw, { tmps := h.tmps, prot := (by obtain ⟨D, ms, hp⟩ := h.prot; exact ⟨D, ms, (hp.alter hk (fun I k e => by cases e)).new rfl (by omega)⟩), base := h.base, pin := fun i hi => by rw [upd_other _ _ _ _ (fun e => by omega)]; exact h.pin i hi, env_ := fun t' => ?_, le0 := h.le0, old := h.old, hr := ?_, sup := fun t' s hs => ?_, hsup := fun i c hc => ?_ }⟩
  · exact (st.env t').loc (fun i hi => hfr i (h.sup t' i hi)) (h.env_ t')
  · refine h.hr.set (Kw.le_refl κ) (8 * st.cnt) (.slice none 0 0) (.bfe t e []) (fun i => Nat.beq i id) (fun _ _ _ _ _ _ _ => ⟨rfl, rfl⟩) (.inl ⟨rfl, rfl⟩)
      (fun i g _ _ _ _ he => by cases he) (fun g hg => by cases hg) (fun i d hd _ _ j hj => hfr j ((h.hsup i d hd).2 j hj)) (fun i => if i = id then none else upd (upd st.heap id (some (.var t0 (cs.set off (Bfz (8 * st.cnt) 0))))) (8 * st.cnt) (some (.bfe t e [])) i) ?_ ?_ ?_ |> fun hr => ?_
    · -- the variable itself
      have hv := h.hr.at_ id _ hk
      obtain ⟨b, us, h1, h2, h3, h4⟩ := hv
      have hat : (Chunk.var t0 (cs.set off (Bfz (8 * st.cnt) 0))).at (upd σ (8 * st.cnt) (.slice none 0 0)) κ (upd σ (8 * st.cnt) (.slice none 0 0) id) := by
        rw [hfr id hid]
        exact ⟨b, us, h1, h2, hset cs us.toList off h3 hc (fun A hA s hs => (h.hsup id _ hk).2 s (sup_mem hA hs)), h4⟩
      refine ⟨fun i d hd => ?_, fun i j g hij hi hj hg => ?_, fun i d g hd hg => ?_⟩
      · by_cases e1 : i = id
        · subst e1
          change upd (upd st.heap i _) (8 * st.cnt) _ i = some d at hd
          rw [upd_other _ _ _ _ hne, upd_same] at hd
          cases hd; exact hat
        · exact hr.at_ i d (by simp only [if_neg e1]; exact hd)
      · have live : ∀ i, i ≠ 8 * st.cnt → upd (upd st.heap id (some (.var t0 (cs.set off (Bfz (8 * st.cnt) 0))))) (8 * st.cnt) (some (.bfe t e [])) i ≠ none → st.heap i ≠ none ∧ upd σ (8 * st.cnt) (.slice none 0 0) i = σ i := fun i hi hn => by
          rw [upd_other _ _ _ _ hi] at hn
          refine ⟨?_, upd_other _ _ _ _ hi⟩
          by_cases e1 : i = id
          · subst e1; rw [hk]; simp
          · rwa [upd_other _ _ _ _ e1] at hn
        by_cases ei : i = 8 * st.cnt
        · subst ei; rw [upd_same] at hg; cases hg
        · by_cases ej : j = 8 * st.cnt
          · subst ej; rw [upd_same]; intro he; cases he
          · obtain ⟨l1, l2⟩ := live i ei hi
            obtain ⟨m1, m2⟩ := live j ej hj
            rw [l2] at hg; rw [m2]
            exact h.hr.far i j g hij l1 m1 hg
      · by_cases e1 : i = id
        · subst e1
          rw [hfr _ hid] at hg
          exact h.hr.base _ _ g hk hg
        · exact hr.base i d g (by simp only [if_neg e1]; exact hd) hg
    · simp only [if_neg (Ne.symm hne), upd_same]
    · intro i hi hg
      have hii : i ≠ id := fun e => by subst e; simp at hg
      simp only [if_neg hii, upd_other _ _ _ _ hi, upd_other _ _ _ _ hii]
    · intro i hi hg
      simp only [if_pos (Nat.eq_of_beq_eq_true hg)]
  · show s / 8 < st.cnt + 1
    have : s / 8 < st.cnt := h.sup t' s hs
    omega
  · show i / 8 < st.cnt + 1 ∧ ∀ s ∈ c.sup, s / 8 < st.cnt + 1
    by_cases e1 : i = 8 * st.cnt
    · subst e1
      simp only [upd_same] at hc
      cases hc
      exact ⟨by omega, fun s hs => by cases hs⟩
    · simp only [upd_other _ _ _ _ e1] at hc
      by_cases e2 : i = id
      · subst e2
        simp only [upd_same] at hc
        cases hc
        refine ⟨by omega, fun s hs => ?_⟩
        obtain ⟨A, hA, hsA⟩ := List.mem_flatMap.1 (show s ∈ (cs.set off (Bfz (8 * st.cnt) 0)).flatMap AV.sup from hs)
        rcases List.mem_or_eq_of_mem_set hA with h1 | h1
        · have : s / 8 < st.cnt := (h.hsup i _ hk).2 s (sup_mem h1 hsA)
          omega
        · subst h1
          have : s ∈ [8 * st.cnt] := hsA
          simp at this; omega
      · simp only [upd_other _ _ _ _ e2] at hc
        obtain ⟨h1, h2⟩ := h.hsup i c hc
        have h1 : i / 8 < st.cnt := h1
        exact ⟨by omega, fun s hs => by have : s / 8 < st.cnt := h2 s hs; omega⟩
end Ab
end Go.Proofs.Ytdcenocljnlipaa

namespace Go.Proofs.Ytdcenocljnlipaa
open Go.RowKit
namespace Ab
section
variable {P : Program} {nid : Nat} {o : Oper} {ρ : Operand → AV} {h : Heap}
theorem Valid.makebuf {G : Type} (f : G → Value) (zg : G) {x y : Operand} {t el : TypeId} {kl kc : IntKind} {a : Int} {bytes : Nat} (ho : o.op = .makeSlice t x y) (ht : P.underlying t = some (.slice el)) (hi : (P.info? el).map (fun i => (i.zero, i.size, i.bytes)) = some (some (f zg), 1, bytes)) (hcs : (f zg).cells = #[f zg])
    (hx : ρ x = Is (.int kl a)) (hy : ρ y = Is (.int kc a)) (h0 : 0 ≤ a) (hb : (bytes : Int) * a ≤ 281474976710656) (h63 : a ≤ 9223372036854775807) :
    Valid P nid o ρ h ⟨Buf (8 * nid) a.toNat, [], [(8 * nid, some (.buf el ((List.replicate a.toNat zg).map f)))]⟩ := by
  have hv : Valid P nid o ρ h ⟨Buf (8 * nid) (List.replicate a.toNat (f zg)).length, [], [(8 * nid, some (.buf el (List.replicate a.toNat (f zg))))]⟩ := .newbuf fun σ κ ac hops => by
    have e1 := hops x (by rw [ho]; simp [Op.operands])
    have e2 := hops y (by rw [ho]; simp [Op.operands])
    rw [hx] at e1; rw [hy] at e2
    have e1 : ac.eval x = .int kl a := e1
    have e2 : ac.eval y = .int kc a := e2
    obtain ⟨i, hi', hz, hs, hby⟩ : ∃ i, P.info? el = some i ∧ i.zero = some (f zg) ∧ i.size = 1 ∧ i.bytes = bytes := by
      cases h : P.info? el with
      | none => rw [h] at hi; cases hi
      | some i =>
        rw [h] at hi
        simp only [Option.map_some, Option.some.injEq, Prod.mk.injEq] at hi
        exact ⟨i, rfl, hi.1, hi.2.1, hi.2.2⟩
    have hrn := run_make (P := P) κ.w t el i _ ht hi' hz kl kc a a h0 (Int.le_refl _) (by rw [hby]; exact hb) h63
    rw [hs, Nat.mul_one, made_cells hcs] at hrn
    have hat := κ.new_at (.cells (List.replicate a.toNat (f zg)).toArray el) (some 0)
    have hl : (List.replicate a.toNat (f zg)).length = a.toNat := List.length_replicate
    refine ⟨a.toNat, κ.new (.cells (List.replicate a.toNat (f zg)).toArray el) (some 0), ?_, κ.new_le _ _, ⟨κ.w.heap.size, [], (0, 0), a.toNat, by rw [hl], by rw [List.append_nil]; exact hat.1, fun j _ hf => by omega, by rw [hl]; rfl, by simp only [maxLen]; omega, hat.2⟩, fun b hb => κ.new_old _ _ b hb, by omega⟩
    unfold execOp
    rw [ho, hl]
    simp only [e1, e2, hrn, Sem.run_bind, Result.andThen_ok, Sem.run_pure]
    rfl
  rwa [List.length_replicate, ← List.map_replicate] at hv
end
end Ab
end Go.Proofs.Ytdcenocljnlipaa

namespace Go.Proofs.Ytdcenocljnlipaa
open Go.RowKit
namespace Ab
def SlAP (σ : Names) (κ : Kw) (e n : Nat) (cs : List AV) (u : Value) : Prop := NS cs ∧ ∃ xs, SlP κ e n xs u ∧ All2 σ κ cs xs
theorem SlAP.any {σ : Names} {κ : Kw} {e n : Nat} {cs : List AV} {u : Value} (σ' : Names) (h : SlAP σ κ e n cs u) : SlAP σ' κ e n cs u := by
  obtain ⟨h1, xs, h2, h3⟩ := h
  exact ⟨h1, xs, h2, h3.any h1 _⟩
theorem SlAP.mono {σ : Names} {κ κ' : Kw} {e n : Nat} {cs : List AV} {u : Value} (hk : κ.le κ') (h : SlAP σ κ e n cs u) : SlAP σ κ' e n cs u := by
  obtain ⟨h1, xs, h2, h3⟩ := h
  exact ⟨h1, xs, h2.mono hk, h3.mono hk⟩
def SlA (e n : Nat) (cs : List AV) : AV := ⟨fun σ κ u => SlAP σ κ e n cs u, [], fun _ h => h.any _, fun hk h => h.mono hk⟩
def OwnA (id e n : Nat) (cs : List AV) : AV := ⟨fun σ κ u => u = σ id ∧ SlAP σ κ e n cs u, [id], fun hs ⟨h1, h2⟩ => ⟨h1.trans (hs id (by simp)).symm, h2.any _⟩, fun hk ⟨h1, h2⟩ => ⟨h1, h2.mono hk⟩⟩
def EltA (cs : List AV) : AV := ⟨fun σ κ u => NS cs ∧ ∃ ad xs, u = .pointer (some ad) ∧ Rd κ ad xs ∧ All2 σ κ cs xs, [], fun _ ⟨h1, ad, xs, h2, h3, h4⟩ => ⟨h1, ad, xs, h2, h3, h4.any h1 _⟩, fun hk ⟨h1, ad, xs, h2, h3, h4⟩ => ⟨h1, ad, xs, h2, h3.mono hk, h4.mono hk⟩⟩
def ReadsA (A : AV) (e n : Nat) (cs : List AV) : Prop := ∀ σ κ v, A.p σ κ v → SlAP σ κ e n cs v
theorem ReadsA.sla {A : AV} {e n : Nat} {cs : List AV} (h : A = SlA e n cs) : ReadsA A e n cs := fun σ κ v hv => by subst h; exact hv
theorem ReadsA.owna {A : AV} {id e n : Nat} {cs : List AV} (h : A = OwnA id e n cs) : ReadsA A e n cs := fun σ κ v hv => by subst h; exact hv.2
theorem ns_nil : NS [] := fun _ h => by cases h
theorem ReadsA.nil {A : AV} {e : Nat} (h : A = Is (.slice none 0 0)) : ReadsA A e 0 [] := fun σ κ v hv => ⟨ns_nil, [], Reads.nil h σ κ v hv, trivial⟩
theorem ns_map {G : Type} {F : G → AV} (h : ∀ g, (F g).sup = []) (l : List G) : NS (l.map F) := fun A hA => by
  obtain ⟨g, _, rfl⟩ := List.mem_map.1 hA
  exact h g
theorem ns_flat {G : Type} {F : G → List AV} (h : ∀ g, NS (F g)) (l : List G) : NS (l.flatMap F) := fun A hA => by
  obtain ⟨g, _, h2⟩ := List.mem_flatMap.1 hA
  exact h g A h2
theorem ns_app {l m : List AV} (h : NS l) (h2 : NS m) : NS (l ++ m) := fun A hA => by
  rcases List.mem_append.1 hA with e | e
  · exact h A e
  · exact h2 A e
theorem all2_app {σ : Names} {κ : Kw} : ∀ {l m : List AV} {us vs : List Value}, All2 σ κ l us → All2 σ κ m vs → All2 σ κ (l ++ m) (us ++ vs)
  | [], _, [], _, _, h => h
  | _ :: _, _, _ :: _, _, ⟨h1, h2⟩, h => ⟨h1, all2_app h2 h⟩
  | [], _, _ :: _, _, h, _ => h.elim
  | _ :: _, _, [], _, h, _ => h.elim
theorem all2_dropA {σ : Names} {κ : Kw} : ∀ (k : Nat) {l : List AV} {us : List Value}, All2 σ κ l us → All2 σ κ (l.drop k) (us.drop k)
  | 0, _, _, h => h
  | _ + 1, [], [], _ => trivial
  | k + 1, _ :: _, _ :: _, ⟨_, h⟩ => all2_dropA k h
  | _ + 1, [], _ :: _, h => h.elim
  | _ + 1, _ :: _, [], h => h.elim
theorem all2_takeA {σ : Names} {κ : Kw} : ∀ (k : Nat) {l : List AV} {us : List Value}, All2 σ κ l us → All2 σ κ (l.take k) (us.take k)
  | 0, _, _, _ => by simp [All2]
  | _ + 1, [], [], _ => trivial
  | k + 1, _ :: _, _ :: _, ⟨h1, h⟩ => ⟨h1, all2_takeA k h⟩
  | _ + 1, [], _ :: _, h => h.elim
  | _ + 1, _ :: _, [], h => h.elim
theorem ns_drop {l : List AV} (h : NS l) (k : Nat) : NS (l.drop k) := fun A hA => h A (List.mem_of_mem_drop hA)
theorem ns_take {l : List AV} (h : NS l) (k : Nat) : NS (l.take k) := fun A hA => h A (List.mem_of_mem_take hA)
theorem rd_sub {κ : Kw} {ad : Addr} {xs : List Value} (h : Rd κ ad xs) {i e : Nat} (_hi : i < xs.length ∨ e = 0) : Rd κ (ad.add i) ((xs.drop i).take e) := fun j u hj => by
  have hj2 : xs[i + j]? = some u := by
    rw [List.getElem?_take] at hj
    split at hj
    · rwa [List.getElem?_drop] at hj
    · cases hj
  obtain ⟨s1, s2, s3⟩ := h _ u hj2
  rw [add_eq s1]
  exact ⟨rfl, by rw [Nat.add_assoc]; exact s2, fun m hm => by have := s3 m hm; simp only; omega⟩
/-! ### heads, calls, results -/
theorem leq_sla {θ : Nat → Nat} {A B : AV} {e n n' : Nat} {xs xs' : List AV} (h : ReadsA A e n xs) (h' : B = SlA e n' xs') (e1 : n = n') (e2 : xs = xs') : A.leq θ B := fun σ κ u hu => by subst h' e1 e2; exact (h σ κ u hu).any _
theorem leq_owna {θ : Nat → Nat} {A B : AV} {id id' e n n' : Nat} {xs xs' : List AV} (h : A = OwnA id e n xs) (h' : B = OwnA id' e n' xs') (hθ : Nat.beq (θ id') id = true) (e1 : n = n') (e2 : xs = xs') : A.leq θ B := fun σ κ u hu => by
  subst h h' e1 e2
  have := Nat.eq_of_beq_eq_true hθ
  subst this
  exact ⟨hu.1, hu.2.any _⟩
theorem leq_elta {θ : Nat → Nat} {A B : AV} {xs xs' : List AV} (h : A = EltA xs) (h' : B = EltA xs') (e2 : xs = xs') : A.leq θ B := fun σ κ u hu => by
  subst h h' e2
  exact (EltA xs).loc (fun _ h => by cases h) hu
theorem up_owna {θ : Nat → Nat} {id id' e n : Nat} {xs : List AV} (h : Nat.beq (θ id) id' = true) : AV.up θ (OwnA id e n xs) (OwnA id' e n xs) := by
  have := Nat.eq_of_beq_eq_true h
  subst this
  exact fun _ _ _ h => ⟨h.1, h.2.any _⟩
theorem cup_rowA {θ : Nat → Nat} {t : TypeId} {e n : Nat} {xs : List AV} : ChunkUp θ (.rowA t e n xs) (.rowA t e n xs) := fun _ _ _ ⟨h0, xs, h1, h2, h3, h4⟩ => ⟨h0, xs, h1, h2, h3, h4.any h0 _⟩
theorem hp_rowA {hp : Heap} {θ : Nat → Nat} {k : Nat} {t : TypeId} {e n n' : Nat} {xs xs' : List AV} (h : hp (θ k) = some (.rowA t e n xs)) (h1 : n = n') (h2 : xs = xs') : ∃ c, hp (θ k) = some c ∧ Chunk.leq θ c (.rowA t e n' xs') := ⟨_, h, .rowA h1 h2⟩
theorem argle_sla {A : AV} {e n : Nat} {xs : List AV} (h : ReadsA A e n xs) : ∀ σ κ v, A.p σ κ v → (SlA e n xs).p σ κ v := h
theorem argle_sla' {A : AV} {e n n' : Nat} {xs xs' : List AV} (h : ReadsA A e n xs) (h1 : n = n') (h2 : xs = xs') : ∀ σ κ v, A.p σ κ v → (SlA e n' xs').p σ κ v := by subst h1 h2; exact h
theorem One.sla {A : AV} {e n : Nat} {xs : List AV} (h : ReadsA A e n xs) : One A := fun σ κ u hu => by
  obtain ⟨_, xs, h1, _⟩ := h σ κ u hu
  obtain ⟨a, c, rfl⟩ := h1.form
  exact ⟨rfl, rfl⟩
section
variable {P : Program} {nid : Nat} {o : Oper} {ρ : Operand → AV} {h : Heap}
theorem Valid.lenA {x : Operand} {t : TypeId} {e n : Nat} {cs : List AV} {el : TypeId} (ho : o.op = .call { callee := .builtin .len, args := #[x], argTypes := #[t] }) (ht : P.underlying t = some (.slice el)) (hx : ReadsA (ρ x) e n cs) :
    Valid P nid o ρ h ⟨Is (.int .i64 (n : Int)), [], []⟩ :=
  .quiet _ (nosup rfl) fun σ κ a hops => by
    obtain ⟨_, xs, h1, _⟩ := hx σ κ _ (hops x (by rw [ho]; simp [Op.operands, Call.operands]))
    obtain ⟨b, c, hu⟩ := h1.form
    refine ⟨.int .i64 (n : Int), ?_, rfl⟩
    unfold execOp
    rw [ho]
    simp [resolve, invoke, builtin, Builtin.len_, run_underlying ht, hu, goInt, Result.andThen]
theorem Valid.eltaddrA {x y : Operand} {t el : TypeId} {e n : Nat} {cs : List AV} {k : IntKind} {i : Int} (ho : o.op = .indexAddr t x y) (ht : P.underlying t = some (.slice el)) (hsz : ∀ w, (sizeOf el).run P w = .ok e w) (hx : ReadsA (ρ x) e n cs) (hy : ρ y = Is (.int k i)) (hi : 0 ≤ i ∧ i < n) :
    Valid P nid o ρ h ⟨EltA ((cs.drop (i.toNat * e)).take e), [], []⟩ :=
  .quiet _ (nosup rfl) fun σ κ a hops => by
    obtain ⟨hns, xs, h1, hall⟩ := hx σ κ _ (hops x (by rw [ho]; simp [Op.operands]))
    have h2 := hops y (by rw [ho]; simp [Op.operands])
    rw [hy] at h2
    have h2 : a.eval y = .int k i := h2
    obtain ⟨hl, ⟨hu, rfl⟩ | ⟨ad, c, hu, hc1, hc2, hrd⟩⟩ := h1
    · omega
    · refine ⟨.pointer (some (ad.add (i.toNat * e))), ?_, ns_take (ns_drop hns _) _, ad.add (i.toNat * e), _, rfl, rd_sub hrd ?_, all2_takeA _ (all2_dropA _ hall)⟩
      · unfold execOp
        rw [ho]
        simp [hu, h2, Instr.indexAt, asIntOf, run_underlying ht, hsz, hi.1, hi.2, Result.andThen]
      · rcases Nat.eq_zero_or_pos e with h0 | h0
        · exact .inr h0
        · left
          rw [hl]
          exact Nat.mul_lt_mul_of_pos_right (by omega) h0
theorem flatA_take {G : Type} {f : G → List AV} {e : Nat} (hf : ∀ g, (f g).length = e) : ∀ (l : List G) (i : Nat), (l.flatMap f).take (i * e) = (l.take i).flatMap f ∧ (l.flatMap f).drop (i * e) = (l.drop i).flatMap f
  | [], i => by simp
  | g :: l, 0 => by simp
  | g :: l, i + 1 => by
    have ih := flatA_take hf l i
    rw [List.flatMap_cons, Nat.add_mul, Nat.one_mul, Nat.add_comm]
    refine ⟨?_, ?_⟩
    · rw [List.take_append, hf, List.take_of_length_le (by rw [hf]; omega), show e + i * e - e = i * e by omega, ih.1, List.take_succ_cons, List.flatMap_cons]
    · rw [List.drop_append, hf, List.drop_of_length_le (by rw [hf]; omega), show e + i * e - e = i * e by omega, ih.2, List.drop_succ_cons, List.nil_append]
theorem flatA_cut {G : Type} {f : G → List AV} {e : Nat} (hf : ∀ g, (f g).length = e) (d : G) {l : List G} {i : Nat} (h : i < l.length) : ((l.flatMap f).drop (i * e)).take e = f (l.getD i d) := by
  rw [(flatA_take hf l i).2, List.drop_eq_getElem_cons h, List.flatMap_cons, List.take_append_of_le_length (by rw [hf]; exact Nat.le_refl _), List.take_of_length_le (by rw [hf]; exact Nat.le_refl _), List.getD_eq_getElem?_getD, List.getElem?_eq_getElem h]
  rfl
theorem Valid.eltF {G : Type} {f : G → List AV} {l : List G} {e : Nat} (d : G) {x y : Operand} {t el : TypeId} {n : Nat} {k : IntKind} {i : Int} (ho : o.op = .indexAddr t x y) (hf : ∀ g, (f g).length = e) (ht : P.underlying t = some (.slice el)) (hsz : ∀ w, (sizeOf el).run P w = .ok e w) (hx : ReadsA (ρ x) e n (l.flatMap f)) (hy : ρ y = Is (.int k i)) (hi : 0 ≤ i ∧ i < n) (hl : n = l.length) :
    Valid P nid o ρ h ⟨EltA (f (l.getD i.toNat d)), [], []⟩ := by
  have hv := Valid.eltaddrA (P := P) (nid := nid) (h := h) ho ht hsz hx hy hi
  rwa [flatA_cut hf d (by omega)] at hv
theorem Valid.eltM {G : Type} {F : G → AV} {l : List G} (d : G) {x y : Operand} {t el : TypeId} {n : Nat} {k : IntKind} {i : Int} (ho : o.op = .indexAddr t x y) (ht : P.underlying t = some (.slice el)) (hsz : ∀ w, (sizeOf el).run P w = .ok 1 w) (hx : ReadsA (ρ x) 1 n (l.map F)) (hy : ρ y = Is (.int k i)) (hi : 0 ≤ i ∧ i < n) (hl : n = l.length) :
    Valid P nid o ρ h ⟨EltA [F (l.getD i.toNat d)], [], []⟩ := by
  rw [List.map_eq_flatMap] at hx
  exact Valid.eltF (f := fun g => [F g]) d ho (fun _ => rfl) ht hsz hx hy hi hl
theorem run_cells {κ : Kw} {ad : Addr} {vs : List Value} (hrd : Rd κ ad vs) : ∀ j v, vs[j]? = some v → κ.w.cell? (ad.add j) = some v := fun j v hj => by
  obtain ⟨s1, s2, _⟩ := hrd j v hj
  rw [add_eq s1]; exact s2
theorem Valid.loadeltaggA {x : Operand} {t : TypeId} {cs : List AV} (ho : o.op = .load t x) (hag : ∀ w, (isAgg t).run P w = .ok true w) (hsz : ∀ w, (sizeOf t).run P w = .ok cs.length w) (hx : ρ x = EltA cs) (hs : cs.flatMap AV.sup = []) : Valid P nid o ρ h ⟨Agg cs, [], []⟩ :=
  .quiet _ (nosup hs) fun σ κ a hops => by
    have h1 := hops x (by rw [ho]; simp [Op.operands])
    rw [hx] at h1
    obtain ⟨hns, ad, vs, hu, hrd, hall⟩ := h1
    have hlen := hall.length
    have hc := run_loadCells_list (P := P) (w := κ.w) ad vs (run_cells hrd)
    refine ⟨.agg vs.toArray, ?_, vs, rfl, hall⟩
    unfold execOp
    rw [ho]
    simp only [hu, Instr.loadAt, Instr.sureAddr, Sem.run_bind, Sem.run_pure, Result.andThen_ok, loadVar, hag, if_true, hsz, ← hlen, hc]
theorem Valid.loadeltA {x : Operand} {t : TypeId} {A : AV} {cs : List AV} (ho : o.op = .load t x) (hag : ∀ w, (isAgg t).run P w = .ok false w) (hx : ρ x = EltA (A :: cs)) (hs : A.sup = []) : Valid P nid o ρ h ⟨A, [], []⟩ :=
  .quiet _ (nosup hs) fun σ κ a hops => by
    have h1 := hops x (by rw [ho]; simp [Op.operands])
    rw [hx] at h1
    obtain ⟨hns, ad, vs, hu, hrd, hall⟩ := h1
    match vs, hall, hrd with
    | [], hall, _ => exact hall.elim
    | v :: vs, ⟨hv, _⟩, hrd =>
      obtain ⟨s1, s2, _⟩ := hrd 0 v rfl
      refine ⟨v, ?_, hv⟩
      have e : (⟨ad.block, ad.off + 0, none⟩ : Addr) = ad := by cases ad; simp at s1; simp [s1]
      rw [e] at s2
      unfold execOp
      rw [ho]
      simp only [hu, Instr.loadAt, Instr.sureAddr, Sem.run_bind, Sem.run_pure, Result.andThen_ok, loadVar, hag]
      simp [s2, Result.andThen]
theorem Valid.fieldeltA {t : TypeId} {x : Operand} {f : Nat} (off : Nat) {cs : List AV} (ho : o.op = .fieldAddr t x f) (hx : ρ x = EltA cs) (hf : ∀ (ad : Addr) (w : World), (Instr.fieldAt t (.pointer (some ad)) f).run P w = .ok (.pointer (some (ad.add off))) w) : Valid P nid o ρ h ⟨EltA (cs.drop off), [], []⟩ :=
  .quiet _ (nosup rfl) fun σ κ a hops => by
    have h1 := hops x (by rw [ho]; simp [Op.operands])
    rw [hx] at h1
    obtain ⟨hns, ad, vs, hu, hrd, hall⟩ := h1
    refine ⟨.pointer (some (ad.add off)), ?_, ns_drop hns _, ad.add off, vs.drop off, rfl, ?_, all2_dropA _ hall⟩
    · unfold execOp
      rw [ho]
      simp only [hu, hf, Sem.run_bind, Result.andThen_ok, Sem.run_pure]
    · intro j u hj
      rw [List.getElem?_drop] at hj
      obtain ⟨s1, s2, s3⟩ := hrd _ u hj
      rw [add_eq s1]
      exact ⟨rfl, by rw [Nat.add_assoc]; exact s2, fun m hm => by have := s3 m hm; simp only; omega⟩
/-! ### cut -/
theorem Valid.sliceA {x y z : Operand} {t el : TypeId} {e n : Nat} {cs : List AV} {k k' : IntKind} {i j : Int} (ho : o.op = .slice t x (some y) (some z) none) (ht : P.underlying t = some (.slice el)) (hsz : ∀ w, (sizeOf el).run P w = .ok e w) (hx : ReadsA (ρ x) e n cs) (hy : ρ y = Is (.int k i)) (hz : ρ z = Is (.int k' j))
    (hi : 0 ≤ i ∧ i ≤ j ∧ j ≤ n) : Valid P nid o ρ h ⟨SlA e (j.toNat - i.toNat) ((cs.drop (i.toNat * e)).take ((j.toNat - i.toNat) * e)), [], []⟩ :=
  .quiet _ (nosup rfl) fun σ κ a hops => by
    obtain ⟨hns, xs, h1, hall⟩ := hx σ κ _ (hops x (by rw [ho]; simp [Op.operands]))
    have h2 := hops y (by rw [ho]; simp [Op.operands])
    have h3 := hops z (by rw [ho]; simp [Op.operands])
    rw [hy] at h2; rw [hz] at h3
    have h2 : a.eval y = .int k i := h2
    have h3 : a.eval z = .int k' j := h3
    obtain ⟨hl, ⟨hu, rfl⟩ | ⟨ad, c, hu, hc1, hc2, hrd⟩⟩ := h1
    · have hi0 : i = 0 := by omega
      have hj0 : j = 0 := by omega
      subst hi0 hj0
      refine ⟨.slice none 0 0, ?_, ns_take (ns_drop hns _) _, _, ⟨?_, .inl ⟨rfl, rfl⟩⟩, all2_takeA _ (all2_dropA _ hall)⟩
      · have e1 : (Instr.sliceBound (.int k' 0) 0 .sliceAcap).run P κ.w = .ok 0 κ.w := run_sliceBound k' 0 0 _ (by omega) (by omega) _
        have e2 : (Instr.sliceBound (.int k 0) 0 .sliceB).run P κ.w = .ok 0 κ.w := run_sliceBound k 0 0 _ (by omega) (by omega) _
        unfold execOp
        rw [ho]
        simp [hu, h2, h3, Instr.sliceAt, Instr.slice, Instr.sliceBounds, run_underlying ht, e1, e2, hsz, Result.andThen]
      · simp
    · have hcut := sl_cut (i := i.toNat) (j := j.toNat) hl hc2 hrd (by omega) (by omega) hc1
      refine ⟨_, ?_, ns_take (ns_drop hns _) _, _, hcut, all2_takeA _ (all2_dropA _ hall)⟩
      have e1 : (Instr.sliceBound (.int k' j) c .sliceAcap).run P κ.w = .ok j.toNat κ.w := run_sliceBound k' j c _ (by omega) (by omega) _
      have e2 : (Instr.sliceBound (.int k i) j.toNat .sliceB).run P κ.w = .ok i.toNat κ.w := run_sliceBound k i j.toNat _ (by omega) (by omega) _
      unfold execOp
      rw [ho]
      simp [hu, h2, h3, Instr.sliceAt, Instr.slice, Instr.sliceBounds, run_underlying ht, e1, e2, hsz, Result.andThen]
      split <;> rfl
theorem Valid.slicetoA {x z : Operand} {t el : TypeId} {e n : Nat} {cs : List AV} {k' : IntKind} {j : Int} (ho : o.op = .slice t x none (some z) none) (ht : P.underlying t = some (.slice el)) (hsz : ∀ w, (sizeOf el).run P w = .ok e w) (hx : ReadsA (ρ x) e n cs) (hz : ρ z = Is (.int k' j))
    (hi : 0 ≤ j ∧ j ≤ n) : Valid P nid o ρ h ⟨SlA e j.toNat (cs.take (j.toNat * e)), [], []⟩ :=
  .quiet _ (nosup rfl) fun σ κ a hops => by
    obtain ⟨hns, xs, h1, hall⟩ := hx σ κ _ (hops x (by rw [ho]; simp [Op.operands]))
    have h3 := hops z (by rw [ho]; simp [Op.operands])
    rw [hz] at h3
    have h3 : a.eval z = .int k' j := h3
    obtain ⟨hl, ⟨hu, rfl⟩ | ⟨ad, c, hu, hc1, hc2, hrd⟩⟩ := h1
    · have hj0 : j = 0 := by omega
      subst hj0
      refine ⟨.slice none 0 0, ?_, ns_take hns _, _, ⟨?_, .inl ⟨rfl, rfl⟩⟩, all2_takeA _ hall⟩
      · have e1 : (Instr.sliceBound (.int k' 0) 0 .sliceAcap).run P κ.w = .ok 0 κ.w := run_sliceBound k' 0 0 _ (by omega) (by omega) _
        unfold execOp
        rw [ho]
        simp [hu, h3, Instr.sliceAt, Instr.slice, Instr.sliceBounds, run_underlying ht, e1, hsz, Result.andThen]
      · simp
    · have hcut := sl_cut (i := 0) (j := j.toNat) hl hc2 hrd (by omega) (by omega) hc1
      simp only [Nat.zero_mul, List.drop_zero, Nat.sub_zero] at hcut
      refine ⟨_, ?_, ns_take hns _, _, hcut, all2_takeA _ hall⟩
      have e1 : (Instr.sliceBound (.int k' j) c .sliceAcap).run P κ.w = .ok j.toNat κ.w := run_sliceBound k' j c _ (by omega) (by omega) _
      unfold execOp
      rw [ho]
      simp [hu, h3, Instr.sliceAt, Instr.slice, Instr.sliceBounds, run_underlying ht, e1, hsz, Result.andThen]
      split <;> rfl
theorem Valid.slicefromA {x y : Operand} {t el : TypeId} {e n : Nat} {cs : List AV} {k : IntKind} {i : Int} (ho : o.op = .slice t x (some y) none none) (ht : P.underlying t = some (.slice el)) (hsz : ∀ w, (sizeOf el).run P w = .ok e w) (hx : ReadsA (ρ x) e n cs) (hy : ρ y = Is (.int k i))
    (hi : 0 ≤ i ∧ i ≤ n) : Valid P nid o ρ h ⟨SlA e (n - i.toNat) (cs.drop (i.toNat * e)), [], []⟩ :=
  .quiet _ (nosup rfl) fun σ κ a hops => by
    obtain ⟨hns, xs, h1, hall⟩ := hx σ κ _ (hops x (by rw [ho]; simp [Op.operands]))
    have h2 := hops y (by rw [ho]; simp [Op.operands])
    rw [hy] at h2
    have h2 : a.eval y = .int k i := h2
    obtain ⟨hl, ⟨hu, rfl⟩ | ⟨ad, c, hu, hc1, hc2, hrd⟩⟩ := h1
    · have hi0 : i = 0 := by omega
      subst hi0
      have hxs : xs = [] := List.eq_nil_of_length_eq_zero (by simpa using hl)
      subst hxs
      refine ⟨.slice none 0 0, ?_, ns_drop hns _, _, ⟨?_, .inl ⟨rfl, rfl⟩⟩, all2_dropA _ hall⟩
      · have e2 : (Instr.sliceBound (.int k 0) 0 .sliceB).run P κ.w = .ok 0 κ.w := run_sliceBound k 0 0 _ (by omega) (by omega) _
        unfold execOp
        rw [ho]
        simp [hu, h2, Instr.sliceAt, Instr.slice, Instr.sliceBounds, run_underlying ht, e2, hsz, Result.andThen]
      · simp
    · have hcut := sl_cut (i := i.toNat) (j := n) hl hc2 hrd (by omega) (by omega) hc1
      have e3 : ((xs.drop (i.toNat * e)).take ((n - i.toNat) * e)) = xs.drop (i.toNat * e) := by
        apply List.take_of_length_le
        rw [List.length_drop, hl, Nat.sub_mul]; omega
      rw [e3] at hcut
      refine ⟨_, ?_, ns_drop hns _, _, hcut, all2_dropA _ hall⟩
      have e2 : (Instr.sliceBound (.int k i) n .sliceB).run P κ.w = .ok i.toNat κ.w := run_sliceBound k i n _ (by omega) (by omega) _
      unfold execOp
      rw [ho]
      simp [hu, h2, Instr.sliceAt, Instr.slice, Instr.sliceBounds, run_underlying ht, e2, hsz, Result.andThen]
      split <;> rfl
section
variable {G : Type} {f : G → List AV} {F : G → AV} {l : List G} {x y z : Operand} {t el : TypeId} {e n : Nat} {k k' : IntKind} {i j : Int}
theorem Valid.sliceF (ho : o.op = .slice t x (some y) (some z) none) (hf : ∀ g, (f g).length = e) (ht : P.underlying t = some (.slice el)) (hsz : ∀ w, (sizeOf el).run P w = .ok e w) (hx : ReadsA (ρ x) e n (l.flatMap f)) (hy : ρ y = Is (.int k i)) (hz : ρ z = Is (.int k' j))
    (hi : 0 ≤ i ∧ i ≤ j ∧ j ≤ n) : Valid P nid o ρ h ⟨SlA e (j.toNat - i.toNat) (((l.drop i.toNat).take (j.toNat - i.toNat)).flatMap f), [], []⟩ := by
  have hv := Valid.sliceA (P := P) (nid := nid) (h := h) ho ht hsz hx hy hz hi
  rwa [(flatA_take hf l i.toNat).2, (flatA_take hf _ _).1] at hv
theorem Valid.slicetoF (ho : o.op = .slice t x none (some z) none) (hf : ∀ g, (f g).length = e) (ht : P.underlying t = some (.slice el)) (hsz : ∀ w, (sizeOf el).run P w = .ok e w) (hx : ReadsA (ρ x) e n (l.flatMap f)) (hz : ρ z = Is (.int k' j))
    (hi : 0 ≤ j ∧ j ≤ n) : Valid P nid o ρ h ⟨SlA e j.toNat ((l.take j.toNat).flatMap f), [], []⟩ := by
  have hv := Valid.slicetoA (P := P) (nid := nid) (h := h) ho ht hsz hx hz hi
  rwa [(flatA_take hf l _).1] at hv
theorem Valid.slicefromF (ho : o.op = .slice t x (some y) none none) (hf : ∀ g, (f g).length = e) (ht : P.underlying t = some (.slice el)) (hsz : ∀ w, (sizeOf el).run P w = .ok e w) (hx : ReadsA (ρ x) e n (l.flatMap f)) (hy : ρ y = Is (.int k i))
    (hi : 0 ≤ i ∧ i ≤ n) : Valid P nid o ρ h ⟨SlA e (n - i.toNat) ((l.drop i.toNat).flatMap f), [], []⟩ := by
  have hv := Valid.slicefromA (P := P) (nid := nid) (h := h) ho ht hsz hx hy hi
  rwa [(flatA_take hf l _).2] at hv
end
/-! ### appended to -/
theorem HR.toA {base : Nat → Prop} {σ : Names} {κ : Kw} {h h' : Heap} (hr : HR base σ κ h) {k : Nat} {el : TypeId} {e n : Nat} {xs : List Value} {cs : List AV} (hk : h k = some (.row el e n xs)) (hns : NS cs) (hs : SlP κ e n xs (σ k)) (ha : All2 σ κ cs xs)
    (h1 : h' k = some (.rowA el e n cs)) (h2 : ∀ i, i ≠ k → h' i = h i) : HR base σ κ h' where
  at_ := fun i c hc => by
    by_cases e : i = k
    · subst e
      rw [h1] at hc; cases hc
      obtain ⟨a1, a2⟩ := hr.at_ i _ hk
      exact ⟨hns, xs, a1, a2, hs, ha⟩
    · rw [h2 i e] at hc; exact hr.at_ i c hc
  far := fun i j g hij hi hj => hr.far i j g hij (by by_cases e : i = k; (· subst e; rw [hk]; simp); (· rwa [← h2 i e])) (by by_cases e : j = k; (· subst e; rw [hk]; simp); (· rwa [← h2 j e]))
  base := fun i c g hc hg => by
    by_cases e : i = k
    · subst e; exact hr.base i _ g hk hg
    · rw [h2 i e] at hc; exact hr.base i c g hc hg
theorem HR.ofA {base : Nat → Prop} {σ : Names} {κ : Kw} {h : Heap} (hr : HR base σ κ h) {k : Nat} {el : TypeId} {e n : Nat} {cs : List AV} (hk : h k = some (.rowA el e n cs)) :
    NS cs ∧ ∃ xs, SlP κ e n xs (σ k) ∧ All2 σ κ cs xs ∧ HR base σ κ (upd h k (some (.row el e n xs))) := by
  obtain ⟨hns, xs, a1, a2, a3, a4⟩ := hr.at_ k _ hk
  refine ⟨hns, xs, a3, a4, ⟨fun i c hc => ?_, fun i j g hij hi hj => ?_, fun i c g hc hg => ?_⟩⟩
  · by_cases e : i = k
    · subst e
      rw [upd_same] at hc; cases hc
      exact ⟨a1, a2⟩
    · rw [upd_other _ _ _ _ e] at hc; exact hr.at_ i c hc
  · refine hr.far i j g hij ?_ ?_
    · by_cases e : i = k
      · subst e; rw [hk]; simp
      · rwa [upd_other _ _ _ _ e] at hi
    · by_cases e : j = k
      · subst e; rw [hk]; simp
      · rwa [upd_other _ _ _ _ e] at hj
  · by_cases e : i = k
    · subst e; exact hr.base i _ g hk hg
    · rw [upd_other _ _ _ _ e] at hc; exact hr.base i c g hc hg
open Classical in
theorem Valid.appA {x y : Operand} {t el : TypeId} {id e n m bytes : Nat} {cs ds : List AV} (ho : o.op = .call { callee := .builtin .append, args := #[x, y], argTypes := #[t, t] })
    (hxy : x ≠ y) (ht : P.underlying t = some (.slice el)) (hi : TI P el e bytes) (hsz : 0 < e) (hx : ρ x = OwnA id e n cs) (hh : h id = some (.rowA el e n cs)) (hid : id / 8 ≠ nid) (hy : ReadsA (ρ y) e m ds) (h1 : ∀ A ∈ ds, One A) (hm : n + m ≤ maxLen) (hb : (n + m) * bytes ≤ 140737488355328) :
    Valid P nid o ρ h ⟨OwnA (8 * nid) e (n + m) (cs ++ ds), [id], [(id, none), (8 * nid, some (.rowA el e (n + m) (cs ++ ds)))]⟩ where
  run := fun base σ κ h' a next Q hops hrd hr hbase hsn hfr hk => by
    have hid' : h' id = some (.rowA el e n cs) := by rw [hrd id (by simp), hh]
    obtain ⟨hns, xs, hsl, hall, hr2⟩ := hr.ofA hid'
    have e1 := hops x (by rw [ho]; simp [Op.operands, Call.operands])
    rw [hx] at e1
    obtain ⟨hns2, ys, hsl2, hall2⟩ := hy σ κ _ (hops y (by rw [ho]; simp [Op.operands, Call.operands]))
    have hone : ∀ u ∈ ys, u.oneCell' = true := by
      intro u hu
      have : ∀ (l : List AV) (us : List Value), (∀ A ∈ l, One A) → All2 σ κ l us → ∀ u ∈ us, u.oneCell' = true := by
        intro l
        induction l with
        | nil => intro us _ h u hu; cases us with
          | nil => cases hu
          | cons _ _ => exact h.elim
        | cons A l ih =>
          intro us h1 h u hu
          cases us with
          | nil => exact h.elim
          | cons v us =>
            rcases List.mem_cons.1 hu with e | e
            · rw [e]; exact (h1 A (by simp) σ κ v h.1).1
            · exact ih us (fun B hB => h1 B (by simp [hB])) h.2 u e
      exact this ds ys h1 hall2 u hu
    let ρ' : Operand → AV := fun z => if z = x then Own id e n xs else if z = y then Sl e m ys else ρ z
    have hx' : ρ' x = Own id e n xs := by simp [ρ']
    have hy' : ρ' y = Sl e m ys := by simp [ρ', Ne.symm hxy]
    have hv := Valid.app (P := P) (nid := nid) (o := o) (ρ := ρ') (h := upd h' id (some (.row el e n xs))) ho ht hi hsz hx' (upd_same _ _ _) (.sl hy') hone hm hb
    refine hv.run base σ κ (upd h' id (some (.row el e n xs))) a next Q (fun z hz => ?_) (fun i _ => rfl) hr2 hbase (fun z hz s hs => ?_) (fun i c hc => ?_) (fun v σ' κ' h1 h2 h3 h4 h5 => ?_)
    · by_cases ex : z = x
      · subst ex; rw [hx']; exact ⟨e1.1, by rw [e1.1]; exact hsl⟩
      · by_cases ey : z = y
        · subst ey; rw [hy']; exact hsl2
        · have : ρ' z = ρ z := by simp [ρ', ex, ey]
          rw [this]; exact hops z hz
    · by_cases ex : z = x
      · subst ex
        rw [hx'] at hs
        have : s ∈ [id] := hs
        simp at this; subst this; exact hid
      · by_cases ey : z = y
        · subst ey; rw [hy'] at hs; cases hs
        · have : ρ' z = ρ z := by simp [ρ', ex, ey]
          rw [this] at hs; exact hsn z hz s hs
    · by_cases ei : i = id
      · subst ei
        rw [upd_same] at hc; cases hc
        exact ⟨hid, fun s hs => by cases hs⟩
      · rw [upd_other _ _ _ _ ei] at hc; exact hfr i c hc
    · have hns3 := ns_app hns hns2
      have hall3 := ((all2_app hall hall2).mono h1).any hns3 σ'
      have hv8 : v = σ' (8 * nid) := h4.1
      have hne : 8 * nid ≠ id := fun e => by omega
      refine hk v σ' κ' h1 h2 h3 ⟨h4.1, hns3, _, h4.2, hall3⟩ ?_
      refine HR.toA (k := 8 * nid) h5 (n := n + m) (e := e) (el := el) (xs := xs ++ ys) ?_ hns3 (by rw [← hv8]; exact h4.2) hall3 ?_ (fun i hi => ?_)
      · simp only [updl, upd_same]
      · simp only [updl, upd_same]
      · simp only [updl]
        rw [upd_other _ _ _ _ hi, upd_other _ _ _ _ hi]
        by_cases ei : i = id
        · subst ei; rw [upd_same, upd_same]
        · rw [upd_other _ _ _ _ ei, upd_other _ _ _ _ ei, upd_other _ _ _ _ ei]
  sup := fun U hU _ => ⟨fun s hs => .inr (by have : s ∈ [8 * nid] := hs; simp at this; omega), fun i c hc s hs => by
    simp only [List.mem_cons, Prod.mk.injEq, List.not_mem_nil, or_false, reduceCtorEq, and_false, false_or] at hc
    obtain ⟨_, hc⟩ := hc
    cases hc; cases hs⟩
  wr := fun z hz => by
    simp only [List.mem_cons, List.not_mem_nil, or_false] at hz
    rcases hz with rfl | rfl
    · exact .inl ⟨by simp, by rw [hh]; simp⟩
    · exact .inr (by simp)
open Classical in
theorem Valid.appnilA {x y : Operand} {t el : TypeId} {e m bytes : Nat} {ds : List AV} (ho : o.op = .call { callee := .builtin .append, args := #[x, y], argTypes := #[t, t] })
    (hxy : x ≠ y) (ht : P.underlying t = some (.slice el)) (hi : TI P el e bytes) (hsz : 0 < e) (hx : ρ x = Is (.slice none 0 0)) (hy : ReadsA (ρ y) e m ds) (h1 : ∀ A ∈ ds, One A) (hm : m ≤ maxLen) (hb : m * bytes ≤ 140737488355328) :
    Valid P nid o ρ h ⟨OwnA (8 * nid) e m ds, [], [(8 * nid, some (.rowA el e m ds))]⟩ where
  run := fun base σ κ h' a next Q hops hrd hr hbase hsn hfr hk => by
    have e1 := hops x (by rw [ho]; simp [Op.operands, Call.operands])
    rw [hx] at e1
    obtain ⟨hns2, ys, hsl2, hall2⟩ := hy σ κ _ (hops y (by rw [ho]; simp [Op.operands, Call.operands]))
    have hone : ∀ u ∈ ys, u.oneCell' = true := by
      intro u hu
      have : ∀ (l : List AV) (us : List Value), (∀ A ∈ l, One A) → All2 σ κ l us → ∀ u ∈ us, u.oneCell' = true := by
        intro l
        induction l with
        | nil => intro us _ h u hu; cases us with
          | nil => cases hu
          | cons _ _ => exact h.elim
        | cons A l ih =>
          intro us h1 h u hu
          cases us with
          | nil => exact h.elim
          | cons v us =>
            rcases List.mem_cons.1 hu with e | e
            · rw [e]; exact (h1 A (by simp) σ κ v h.1).1
            · exact ih us (fun B hB => h1 B (by simp [hB])) h.2 u e
      exact this ds ys h1 hall2 u hu
    let ρ' : Operand → AV := fun z => if z = y then Sl e m ys else ρ z
    have hx' : ρ' x = Is (.slice none 0 0) := by simp [ρ', hxy, hx]
    have hy' : ρ' y = Sl e m ys := by simp [ρ']
    have hv := Valid.appnil (P := P) (nid := nid) (o := o) (ρ := ρ') (h := h') ho ht hi hsz hx' (.sl hy') hone hm hb
    refine hv.run base σ κ h' a next Q (fun z hz => ?_) (fun i _ => rfl) hr hbase (fun z hz s hs => ?_) hfr (fun v σ' κ' h1 h2 h3 h4 h5 => ?_)
    · by_cases ey : z = y
      · subst ey; rw [hy']; exact hsl2
      · have : ρ' z = ρ z := by simp [ρ', ey]
        rw [this]; exact hops z hz
    · by_cases ey : z = y
      · subst ey; rw [hy'] at hs; cases hs
      · have : ρ' z = ρ z := by simp [ρ', ey]
        rw [this] at hs; exact hsn z hz s hs
    · have hall3 := (hall2.mono h1).any hns2 σ'
      have hv8 : v = σ' (8 * nid) := h4.1
      refine hk v σ' κ' h1 h2 h3 ⟨h4.1, hns2, _, h4.2, hall3⟩ ?_
      refine HR.toA (k := 8 * nid) h5 (n := m) (e := e) (el := el) (xs := ys) ?_ hns2 (by rw [← hv8]; exact h4.2) hall3 ?_ (fun i hi => ?_)
      · simp only [updl, upd_same]
      · simp only [updl, upd_same]
      · simp only [updl]
        rw [upd_other _ _ _ _ hi, upd_other _ _ _ _ hi]
  sup := fun U hU _ => ⟨fun s hs => .inr (by have : s ∈ [8 * nid] := hs; simp at this; omega), fun i c hc s hs => by
    simp only [List.mem_cons, Prod.mk.injEq, List.not_mem_nil, or_false] at hc
    obtain ⟨_, hc⟩ := hc
    cases hc; cases hs⟩
  wr := fun z hz => by simp at hz; subst hz; exact .inr (by simp)
end
end Ab
end Go.Proofs.Ytdcenocljnlipaa

namespace Go.Proofs.Ytdcenocljnlipaa
open Go.RowKit
namespace Ab
theorem all2_isA {σ : Names} {κ : Kw} : ∀ l : List Value, All2 σ κ (l.map Is) l
  | [] => trivial
  | _ :: l => ⟨rfl, all2_isA l⟩
theorem ns_is (l : List Value) : NS (l.map Is) := ns_map (fun _ => rfl) l
theorem Ent.toA {st : St} (k i : Nat) {t : TypeId} {e n : Nat} {xs : List Value} (hk : st.env k = Own i e n xs) (hh : st.heap i = some (.row t e n xs)) :
    Ent st ⟨upd st.env k (OwnA i e n (xs.map Is)), upd st.heap i (some (.rowA t e n (xs.map Is))), st.cnt⟩ := by
  intro X a w ⟨hc1, σ, κ, hw, h⟩
  have h1 := h.env_ k
  rw [hk] at h1
  obtain ⟨hu, hsl⟩ := h1
  rw [hu] at hsl
  refine ⟨hc1, σ, κ, hw, { tmps := h.tmps, prot := (by obtain ⟨D, ms, hp⟩ := h.prot; exact ⟨D, ms, hp.alter hh (fun I k e => by cases e)⟩), base := h.base, pin := h.pin, env_ := fun t' => ?_, le0 := h.le0, old := h.old, hr := h.hr.toA hh (ns_is xs) hsl (all2_isA xs) (upd_same _ _ _) (fun j hj => upd_other _ _ _ _ hj), sup := fun t' s hs => ?_, hsup := fun j c hc => ?_ }⟩
  · by_cases e : t' = k
    · subst e
      simp only [upd_same]
      exact ⟨hu, ns_is xs, xs, by rw [hu]; exact hsl, all2_isA xs⟩
    · simp only [upd_other _ _ _ _ e]; exact h.env_ t'
  · by_cases e : t' = k
    · subst e
      simp only [upd_same] at hs
      have : s ∈ (st.env t').sup := by rw [hk]; exact hs
      exact h.sup t' s this
    · simp only [upd_other _ _ _ _ e] at hs
      exact h.sup t' s hs
  · by_cases e : j = i
    · subst e
      simp only [upd_same] at hc
      cases hc
      exact ⟨(h.hsup j _ hh).1, fun s hs => by cases hs⟩
    · simp only [upd_other _ _ _ _ e] at hc
      exact h.hsup j c hc
section
variable {P : Program} {nid : Nat} {o : Oper} {ρ : Operand → AV} {h : Heap}
/-- a literal of one slice -/
theorem Valid.litA1 {t el : TypeId} {x : Operand} {n : Nat} {xs : List Value} (ho : o.op = .buildSlice t 1 #[(0, x)]) (hx : Reads (ρ x) 1 n xs)
    (hrun : ∀ (a : Option Addr) (n c : Nat) (w : World), (Instr.buildSlice t 1 #[(0, .slice a n c)]).run P w = .ok (.slice (some ⟨w.heap.size, 0, none⟩) 1 1) (w.alloc (.cells #[.slice a n c] el))) :
    Valid P nid o ρ h ⟨SlA 1 1 [Sl 1 n xs], [], []⟩ :=
  .fresh _ rfl fun σ κ a hops => by
    have h0 := hx σ κ _ (hops x (by rw [ho]; simp [Op.operands]))
    obtain ⟨b0, c0, u0⟩ := h0.form
    have hr := hrun b0 n c0 κ.w
    rw [← u0] at hr
    let cs : List Value := [a.eval x]
    have hle := κ.new_le (.cells cs.toArray el) none
    refine ⟨_, κ.new (.cells cs.toArray el) none, ?_, hle, fun b hb => κ.new_old _ _ b hb, fun A hA => by simp at hA; subst hA; rfl, cs, ⟨rfl, .inr ⟨⟨κ.w.heap.size, 0, none⟩, 1, rfl, Nat.le_refl _, by decide, rd_new κ cs el⟩⟩, h0.mono hle, trivial⟩
    unfold execOp
    rw [ho]
    have : (#[((0 : Nat), x)].map fun q => (q.1, a.eval q.2)) = #[(0, a.eval x)] := by simp
    simp only [this, hr, Sem.run_bind, Result.andThen_ok, Sem.run_pure]
    rfl
theorem Valid.litA2 {t el : TypeId} {x y : Operand} {n0 n1 : Nat} {xs0 xs1 : List Value} (ho : o.op = .buildSlice t 2 #[(0, x), (1, y)]) (hx : Reads (ρ x) 1 n0 xs0) (hy : Reads (ρ y) 1 n1 xs1)
    (hrun : ∀ (a b : Option Addr) (n1 n2 c1 c2 : Nat) (w : World), (Instr.buildSlice t 2 #[(0, .slice a n1 c1), (1, .slice b n2 c2)]).run P w = .ok (.slice (some ⟨w.heap.size, 0, none⟩) 2 2) (w.alloc (.cells #[.slice a n1 c1, .slice b n2 c2] el))) :
    Valid P nid o ρ h ⟨SlA 1 2 [Sl 1 n0 xs0, Sl 1 n1 xs1], [], []⟩ :=
  .fresh _ rfl fun σ κ a hops => by
    have h0 := hx σ κ _ (hops x (by rw [ho]; simp [Op.operands]))
    have h1 := hy σ κ _ (hops y (by rw [ho]; simp [Op.operands]))
    obtain ⟨b0, c0, u0⟩ := h0.form
    obtain ⟨b1, c1, u1⟩ := h1.form
    have hr := hrun b0 b1 n0 n1 c0 c1 κ.w
    rw [← u0, ← u1] at hr
    let cs : List Value := [a.eval x, a.eval y]
    have hle := κ.new_le (.cells cs.toArray el) none
    refine ⟨_, κ.new (.cells cs.toArray el) none, ?_, hle, fun b hb => κ.new_old _ _ b hb, fun A hA => by simp at hA; rcases hA with rfl | rfl <;> rfl, cs, ⟨rfl, .inr ⟨⟨κ.w.heap.size, 0, none⟩, 2, rfl, Nat.le_refl _, by decide, rd_new κ cs el⟩⟩, h0.mono hle, h1.mono hle, trivial⟩
    unfold execOp
    rw [ho]
    have : (#[((0 : Nat), x), (1, y)].map fun q => (q.1, a.eval q.2)) = #[(0, a.eval x), (1, a.eval y)] := by simp
    simp only [this, hr, Sem.run_bind, Result.andThen_ok, Sem.run_pure]
    rfl
/-- a literal of one struct: a number and a slice -/
theorem Valid.litT1 {t el : TypeId} {x : Operand} {v : Int} {B : AV} {n : Nat} {xs : List Value} (ho : o.op = .buildSlice t 1 #[(0, x)]) (hx : ρ x = Agg [Is (.int .i64 v), B]) (hB : Reads B 1 n xs)
    (hrun : ∀ (v : Int) (a : Option Addr) (n c : Nat) (w : World), (Instr.buildSlice t 1 #[(0, .agg #[.int .i64 v, .slice a n c])]).run P w = .ok (.slice (some ⟨w.heap.size, 0, none⟩) 1 1) (w.alloc (.cells #[.int .i64 v, .slice a n c] el))) :
    Valid P nid o ρ h ⟨SlA 2 1 [Is (.int .i64 v), Sl 1 n xs], [], []⟩ :=
  .fresh _ rfl fun σ κ a hops => by
    have h0 := hops x (by rw [ho]; simp [Op.operands])
    rw [hx] at h0
    obtain ⟨us, hu, hall⟩ := h0
    match us, hall, hu with
    | [u1, u2], ⟨e1, e2, _⟩, hu =>
      have e1 : u1 = .int .i64 v := e1
      have e2 := hB σ κ u2 e2
      obtain ⟨b0, c0, u0⟩ := e2.form
      have hr := hrun v b0 n c0 κ.w
      let cs : List Value := [.int .i64 v, .slice b0 n c0]
      have hle := κ.new_le (.cells cs.toArray el) none
      refine ⟨_, κ.new (.cells cs.toArray el) none, ?_, hle, fun b hb => κ.new_old _ _ b hb, fun A hA => by simp at hA; rcases hA with rfl | rfl <;> rfl, cs, ⟨rfl, .inr ⟨⟨κ.w.heap.size, 0, none⟩, 1, rfl, Nat.le_refl _, by decide, rd_new κ cs el⟩⟩, rfl, by rw [← u0]; exact e2.mono hle, trivial⟩
      unfold execOp
      rw [ho]
      have : (#[((0 : Nat), x)].map fun q => (q.1, a.eval q.2)) = #[(0, .agg #[.int .i64 v, .slice b0 n c0])] := by simp [hu, e1, u0]
      simp only [this, hr, Sem.run_bind, Result.andThen_ok, Sem.run_pure]
      rfl
    | [], hall, _ => exact hall.elim
    | [_], ⟨_, hall⟩, _ => exact hall.elim
    | _ :: _ :: _ :: _, ⟨_, _, hall⟩, _ => exact hall.elim
theorem Valid.structT {t : TypeId} {x y : Operand} {v : Int} {n : Nat} {xs : List Value} (ho : o.op = .build t #[(0, x), (1, y)]) (hx : ρ x = Is (.int .i64 v)) (hB : Reads (ρ y) 1 n xs)
    (hrun : ∀ (v : Int) (a : Option Addr) (n c : Nat) (w : World), (Instr.build t #[(0, .int .i64 v), (1, .slice a n c)]).run P w = .ok (.agg #[.int .i64 v, .slice a n c]) w) :
    Valid P nid o ρ h ⟨Agg [Is (.int .i64 v), Sl 1 n xs], [], []⟩ :=
  .quiet _ (nosup rfl) fun σ κ a hops => by
    have h0 := hops x (by rw [ho]; simp [Op.operands])
    have h1 := hB σ κ _ (hops y (by rw [ho]; simp [Op.operands]))
    rw [hx] at h0
    have h0 : a.eval x = .int .i64 v := h0
    obtain ⟨b0, c0, u0⟩ := h1.form
    refine ⟨.agg #[.int .i64 v, .slice b0 n c0], ?_, [.int .i64 v, .slice b0 n c0], rfl, rfl, by rw [← u0]; exact h1, trivial⟩
    unfold execOp
    rw [ho]
    have : (#[((0 : Nat), x), (1, y)].map fun q => (q.1, a.eval q.2)) = #[(0, .int .i64 v), (1, .slice b0 n c0)] := by simp [h0, u0]
    simp only [this, hrun, Sem.run_bind, Result.andThen_ok, Sem.run_pure]
end
theorem flatA_snoc {G : Type} {f : G → List AV} {l : List G} {x : G} : l.flatMap f ++ f x = (l ++ [x]).flatMap f := by simp
theorem mapA_snoc {G : Type} {F : G → AV} {l : List G} {x : G} : l.map F ++ [F x] = (l ++ [x]).map F := by simp
theorem oneA_nil : ∀ A ∈ ([] : List AV), One A := fun _ h => by cases h
theorem oneA_cons {A : AV} {l : List AV} (h : One A) (h2 : ∀ B ∈ l, One B) : ∀ B ∈ A :: l, One B := fun B hB => by
  rcases List.mem_cons.1 hB with e | e
  · rw [e]; exact h
  · exact h2 B e
theorem oneA_flat {G : Type} {f : G → List AV} (h : ∀ g, ∀ A ∈ f g, One A) (l : List G) : ∀ A ∈ l.flatMap f, One A := fun A hA => by
  obtain ⟨g, _, h2⟩ := List.mem_flatMap.1 hA
  exact h g A h2
theorem oneA_map {G : Type} {F : G → AV} (h : ∀ g, One (F g)) (l : List G) : ∀ A ∈ l.map F, One A := fun A hA => by
  obtain ⟨g, _, rfl⟩ := List.mem_map.1 hA
  exact h g
end Ab
end Go.Proofs.Ytdcenocljnlipaa

namespace Go.Proofs.Ytdcenocljnlipaa
open Go.RowKit
namespace Ab
theorem argle_sl' {A : AV} {e n n' : Nat} {xs xs' : List Value} (h : Reads A e n xs) (h1 : n = n') (h2 : xs = xs') : ∀ σ κ v, A.p σ κ v → (Sl e n' xs').p σ κ v := by subst h1 h2; exact h
theorem argle_sleq {e n n' : Nat} {xs xs' : List Value} (h1 : n = n') (h2 : xs = xs') : Sl e n xs = Sl e n' xs' := by subst h1 h2; rfl
theorem all2_at {σ : Names} {κ : Kw} : ∀ {l : List AV} {us : List Value} {k : Nat} {A : AV}, All2 σ κ l us → l[k]? = some A → ∃ u, us[k]? = some u ∧ A.p σ κ u
  | [], [], _, _, _, h => by simp at h
  | B :: _, u :: _, 0, A, ⟨h1, _⟩, h => by
    simp only [List.getElem?_cons_zero, Option.some.injEq] at h
    subst h; exact ⟨u, rfl, h1⟩
  | _ :: l, _ :: us, k + 1, A, ⟨_, h2⟩, h => all2_at (l := l) (us := us) (k := k) h2 (by rwa [List.getElem?_cons_succ] at h)
  | [], _ :: _, _, _, h, _ => h.elim
  | _ :: _, [], _, _, h, _ => h.elim
theorem all2_setA {σ : Names} {κ : Kw} {A B : AV} (hAB : ∀ u, A.p σ κ u → B.p σ κ u) : ∀ {l : List AV} {us : List Value} {k : Nat}, All2 σ κ l us → l[k]? = some A → All2 σ κ (l.set k B) us
  | [], [], _, _, h => by simp at h
  | C :: _, u :: _, 0, ⟨h1, h2⟩, h => by
    simp only [List.getElem?_cons_zero, Option.some.injEq] at h
    subst h; exact ⟨hAB u h1, h2⟩
  | _ :: l, _ :: us, k + 1, ⟨h1, h2⟩, h => ⟨h1, all2_setA hAB (k := k) h2 (by rwa [List.getElem?_cons_succ] at h)⟩
  | [], _ :: _, _, h, _ => h.elim
  | _ :: _, [], _, h, _ => h.elim
theorem Ent.toAat {st : St} (id off i : Nat) {t0 t : TypeId} {cs : List AV} {e n : Nat} {xs : List Value} (hk : st.heap id = some (.var t0 cs)) (hc : cs[off]? = some (Own i e n xs)) (hh : st.heap i = some (.row t e n xs)) :
    Ent st ⟨st.env, upd (upd st.heap i (some (.rowA t e n (xs.map Is)))) id (some (.var t0 (cs.set off (OwnA i e n (xs.map Is))))), st.cnt⟩ := by
  intro X a w ⟨hc1, σ, κ, hw, h⟩
  have hne : id ≠ i := fun e => by rw [e, hh] at hk; cases hk
  obtain ⟨b, us, a1, a2, a3, a4⟩ := h.hr.at_ id _ hk
  obtain ⟨u, _, hu, hsl⟩ := all2_at a3 hc
  rw [hu] at hsl
  have hr1 := h.hr.toA hh (ns_is xs) hsl (all2_isA xs) (h' := upd st.heap i (some (.rowA t e n (xs.map Is)))) (upd_same _ _ _) (fun j hj => upd_other _ _ _ _ hj)
  have hk1 : upd st.heap i (some (.rowA t e n (xs.map Is))) id = some (.var t0 cs) := by rw [upd_other _ _ _ _ hne]; exact hk
  have hall : All2 σ κ (cs.set off (OwnA i e n (xs.map Is))) us.toList := all2_setA (A := Own i e n xs) (B := OwnA i e n (xs.map Is)) (fun u hu => ⟨hu.1, ns_is xs, xs, hu.2, all2_isA xs⟩) a3 hc
  have hhp : HR X.base σ κ (upd (upd st.heap i (some (.rowA t e n (xs.map Is)))) id (some (.var t0 (cs.set off (OwnA i e n (xs.map Is)))))) := {
    at_ := fun j c hj => by
      by_cases ej : j = id
      · subst ej
        rw [upd_same] at hj; cases hj
        exact ⟨b, us, a1, a2, hall, a4⟩
      · rw [upd_other _ _ _ _ ej] at hj; exact hr1.at_ j c hj
    far := fun j k g hjk hj hk2 => hr1.far j k g hjk (by by_cases ej : j = id; (· subst ej; rw [hk1]; simp); (· rwa [upd_other _ _ _ _ ej] at hj)) (by by_cases ej : k = id; (· subst ej; rw [hk1]; simp); (· rwa [upd_other _ _ _ _ ej] at hk2))
    base := fun j c g hj hg => by
      by_cases ej : j = id
      · subst ej; exact hr1.base j _ g hk1 hg
      · rw [upd_other _ _ _ _ ej] at hj; exact hr1.base j c g hj hg }
  refine ⟨hc1, σ, κ, hw, { tmps := h.tmps, prot := (by obtain ⟨D, ms, hp⟩ := h.prot; exact ⟨D, ms, (hp.alter hh (fun I k e => by cases e)).alter hk1 (fun I k e => by cases e)⟩), base := h.base, pin := h.pin, env_ := h.env_, le0 := h.le0, old := h.old, hr := hhp, sup := h.sup, hsup := fun j c hj => ?_ }⟩
  change upd (upd st.heap i (some (.rowA t e n (xs.map Is)))) id (some (.var t0 (cs.set off (OwnA i e n (xs.map Is))))) j = some c at hj
  by_cases ej : j = id
  · subst ej
    have hs := h.hsup j _ hk
    rw [upd_same] at hj
    cases hj
    refine ⟨hs.1, fun s hs2 => ?_⟩
    obtain ⟨A, hA, hsA⟩ := List.mem_flatMap.1 hs2
    rcases List.mem_or_eq_of_mem_set hA with h3 | h3
    · exact hs.2 s (List.mem_flatMap.2 ⟨A, h3, hsA⟩)
    · subst h3
      have h4 : Own i e n xs ∈ cs := List.mem_of_getElem? hc
      exact hs.2 s (List.mem_flatMap.2 ⟨_, h4, hsA⟩)
  · rw [upd_other _ _ _ _ ej] at hj
    by_cases ei : j = i
    · subst ei
      rw [upd_same] at hj; cases hj
      exact ⟨(h.hsup j _ hh).1, fun s hs => by cases hs⟩
    · rw [upd_other _ _ _ _ ei] at hj; exact h.hsup j c hj
section
variable {P : Program} {nid : Nat} {o : Oper} {ρ : Operand → AV} {h : Heap}
/-- a slice with something in it is not nil -/
theorem Valid.notnil {x y : Operand} {t t' : TypeId} {e n : Nat} {xs : List Value} (ho : o.op = .binOp .eql t x y t') (hx : Reads (ρ x) e n xs) (hy : ρ y = Is (.slice none 0 0)) (hn : 0 < n)
    (hq : ∀ (ad : Addr) (n c : Nat) (w : World), (do eqGuard .eql t x y (.slice (some ad) n c) (.slice none 0 0); binOp .eql t (.slice (some ad) n c) (.slice none 0 0)).run P w = .ok (.bool false) w) : Valid P nid o ρ h ⟨Is (.bool false), [], []⟩ :=
  .quiet _ (nosup rfl) fun σ κ a hops => by
    have e2 := hops y (by rw [ho]; simp [Op.operands])
    rw [hy] at e2
    have e2 : a.eval y = .slice none 0 0 := e2
    obtain ⟨hl, ⟨_, h0⟩ | ⟨ad, c, e3, _⟩⟩ := hx σ κ _ (hops x (by rw [ho]; simp [Op.operands]))
    · omega
    have := hq ad n c κ.w
    refine ⟨.bool false, ?_, rfl⟩
    unfold execOp
    rw [ho]
    simp only [e2, e3, Sem.run_bind] at this ⊢
    cases h1 : (eqGuard .eql t x y (.slice (some ad) n c) (.slice none 0 0)).run P κ.w with
    | ok v w => rw [h1] at this; simp only [Result.andThen] at this ⊢; rw [this]; rfl
    | _ => rw [h1] at this; cases this
/-- an array of the call's own, as a slice: it is only read from here on -/
theorem Valid.sliceall {x : Operand} {t t0 el : TypeId} {id n : Nat} {cs : List AV} (ho : o.op = .slice t x none none none) (ht : P.underlying t = some (.array n el)) (hsz : ∀ w, (sizeOf el).run P w = .ok 1 w) (hx : ρ x = Ptr id 0) (hh : h id = some (.var t0 cs)) (hn : cs.length = n) (hm : n ≤ maxLen) (hs : cs.flatMap AV.sup = []) :
    Valid P nid o ρ h ⟨SlA 1 n cs, [id], [(id, none)]⟩ where
  run := fun base σ κ h' a next Q hops hrd hr hbase hsn hfr hk => by
    have hid : h' id = some (.var t0 cs) := by rw [hrd id (by simp), hh]
    have h1 := hops x (by rw [ho]; simp [Op.operands])
    rw [hx] at h1
    obtain ⟨b, hσ, hu⟩ := h1
    obtain ⟨b', us, e, hheap, hall, hown⟩ := hr.at_ id _ hid
    rw [hσ] at e
    cases e
    have hblk : blk (σ id) = some b := by rw [hσ]; rfl
    have hns : NS cs := fun A hA => by
      have : ∀ l : List AV, l.flatMap AV.sup = [] → ∀ A ∈ l, A.sup = [] := fun l => by
        induction l with
        | nil => intro _ A hA; cases hA
        | cons B l ih =>
          intro h A hA
          rw [List.flatMap_cons] at h
          obtain ⟨h1, h2⟩ := List.append_eq_nil_iff.1 h
          rcases List.mem_cons.1 hA with e | e
          · rw [e]; exact h1
          · exact ih h2 A e
      exact this cs hs A hA
    let κ' : Kw := ⟨κ.w, fun g => if g = b then none else κ.own g, fun g m hg => by
      split at hg
      · cases hg
      · exact κ.lt g m hg⟩
    have hle : κ.le κ' := { os := rfl, tape := rfl, output := rfl, size := Nat.le_refl _, still := fun g hg ho => ⟨by simp [κ', ho], rfl⟩, grow := fun g m hm => ⟨fun k' hk' => by
      have hk' : (if g = b then none else κ.own g) = some k' := hk'
      split at hk'
      · cases hk'
      · rw [hm] at hk'; cases hk'; exact Nat.le_refl _, fun j u _ hu => hu⟩ }
    have hv : (execOp a.eval o).run P κ.w = .ok (.value (.slice (some ⟨b, 0, none⟩) n n)) κ.w := by
      unfold execOp
      rw [ho]
      simp [hu, Instr.sliceAt, Instr.sureAddr, Instr.sliceBounds, run_underlying ht, hsz, Result.andThen, Addr.add]
    have hlen : us.toList.length = n := by rw [hall.length, hn]
    have hno : ∀ i, i ≠ id → ∀ c, upd h' id none i = some c → h' i = some c := fun i hi c hc => by rwa [upd_other _ _ _ _ hi] at hc
    have hne : ∀ i c, upd h' id none i = some c → i ≠ id := fun i c hc e => by rw [e, upd_same] at hc; cases hc
    have hnn : ∀ i, upd h' id none i ≠ none → i ≠ id ∧ h' i ≠ none := fun i hi => by
      have : i ≠ id := fun e => hi (by rw [e, upd_same])
      exact ⟨this, by rwa [upd_other _ _ _ _ this] at hi⟩
    unfold Oper.wp
    rw [hv]
    refine hk _ σ κ' hle (fun g hg => ⟨?_, rfl⟩) (fun _ _ => rfl) ⟨hns, us.toList, ⟨by omega, .inr ⟨⟨b, 0, none⟩, n, rfl, Nat.le_refl _, hm, fun j u hj => ⟨rfl, ?_, fun m hm => ?_⟩⟩⟩, hall.mono hle⟩ ⟨fun i c hc => ?_, fun i j g hij hi hj => ?_, fun i c g hc => ?_⟩
    · have hgb : g ≠ b := fun e => hr.base id _ b hid hblk (e ▸ hg)
      simp [κ', hgb]
    · show World.cell? κ.w ⟨b, 0 + j, none⟩ = some u
      simp only [World.cell?, hheap]
      simpa using hj
    · have hm : (if b = b then none else κ.own b) = some m := hm
      simp at hm
    · have hi := hne i c hc
      have hc' := hno i hi c hc
      refine Chunk.keep hle (fun g hg => ⟨rfl, ?_⟩) (hr.at_ i c hc')
      have hgb : g ≠ b := fun e => hr.far i id g hi (by rw [hc']; exact fun x => by cases x) (by rw [hid]; exact fun x => by cases x) hg (by rw [hblk, e])
      simp [κ', hgb]
    · exact hr.far i j g hij (hnn i hi).2 (hnn j hj).2
    · exact hr.base i c g (hno i (hne i c hc) c hc)
  sup := fun U hU _ => ⟨fun s hs => (by cases hs), fun i c hc s hs => by
    simp only [List.mem_cons, Prod.mk.injEq, List.not_mem_nil, or_false, reduceCtorEq, and_false] at hc⟩
  wr := fun z hz => by
    simp only [List.mem_cons, List.not_mem_nil, or_false] at hz
    subst hz
    exact .inl ⟨by simp, by rw [hh]; simp⟩
theorem Valid.loadeltSl {x : Operand} {t : TypeId} {A : AV} {cs : List AV} {e n : Nat} {xs : List Value} (ho : o.op = .load t x) (hag : ∀ w, (isAgg t).run P w = .ok false w) (hx : ρ x = EltA (A :: cs)) (hA : A = Sl e n xs) : Valid P nid o ρ h ⟨Sl e n xs, [], []⟩ := by
  subst hA
  exact Valid.loadeltA ho hag hx rfl
end
end Ab
end Go.Proofs.Ytdcenocljnlipaa
