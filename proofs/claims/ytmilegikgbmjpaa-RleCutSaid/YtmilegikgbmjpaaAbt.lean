/-
  ARRAYS AS VALUES over abstract states: loaded whole, stored whole, indexed.
-/
import Derived.Test.YtmilegikgbmjpaaAbs
namespace Go.Proofs.Ytmilegikgbmjpaa
open Go.RowKit
namespace Ab
/-- an array, by a list -/
def arrV {G : Type} (f : G → Value) (l : List G) : Value := .agg (l.map f).toArray
theorem arr_all {G : Type} {f : G → Value} {l : List G} {n : Nat} (hn : l.length = n) : ((Arr f l).drop 0).take n = Arr f l := by
  rw [List.drop_zero, List.take_of_length_le (by simp [Arr]; omega)]
theorem agg_arr {G : Type} {f : G → Value} {l : List G} {n : Nat} (hn : l.length = n) : ∀ σ κ v, (Agg (((Arr f l).drop 0).take n)).p σ κ v → (Is (arrV f l)).p σ κ v := fun σ κ v h => by
  rw [arr_all hn] at h
  obtain ⟨us, rfl, h⟩ := h
  rw [all2_eq h]; rfl
theorem arr_len {G : Type} {f : G → Value} {l : List G} {n : Nat} (hn : l.length = n) : 0 + n ≤ (Arr f l).length := by simp [Arr]; omega
theorem RVal.cellarr {P : Program} {st : St} {t : Tmp} {ty t0 : TypeId} {id n : Nat} {A : AV} {G : Type} {f : G → Value} {l : List G} (hag : ∀ w, (isAgg ty).run P w = .ok true w) (hsz : ∀ w, (sizeOf ty).run P w = .ok n w) (hx : st.env t = Ptr id 0) (hh : st.heap id = some (.var t0 (Arr f l))) (hn : l.length = n) (hA : Is (arrV f l) = A) : RVal P st (.cell t ty) A :=
  .cellagg hag hsz hx hh (arr_len hn) (fun σ κ v h => hA ▸ agg_arr hn σ κ v h)
section
variable {P : Program} {nid : Nat} {o : Oper} {ρ : Operand → AV} {h : Heap}
theorem Valid.loadall {G : Type} {f : G → Value} {l : List G} {t t0 : TypeId} {x : Operand} {id n : Nat} (ho : o.op = .load t x) (hag : ∀ w, (isAgg t).run P w = .ok true w) (hsz : ∀ w, (sizeOf t).run P w = .ok n w) (hx : ρ x = Ptr id 0) (hh : h id = some (.var t0 (Arr f l))) (hn : l.length = n) :
    Valid P nid o ρ h ⟨Is (arrV f l), [id], []⟩ :=
  (Valid.loadagg ho hag hsz hx hh (arr_len hn)).weak (agg_arr hn) rfl
theorem Valid.storeall {G : Type} {f : G → Value} {l l' : List G} {t t0 : TypeId} {x y : Operand} {id n : Nat} (ho : o.op = .store t x y) (hsz : ∀ w, (sizeOf t).run P w = .ok n w) (hx : ρ x = Ptr id 0) (hh : h id = some (.var t0 (Arr f l))) (hn : l.length = n) (hy : ρ y = Is (arrV f l')) (hn' : l'.length = n) (h1 : ∀ g, (f g).oneCell' = true) :
    Valid P nid o ρ h ⟨Is undef, [id], [(id, some (.var t0 (Arr f l')))]⟩ := by
  have hl : (Arr f l').length = n := by simp [Arr, hn']
  have hv := Valid.storeL (P := P) (nid := nid) (new := Arr f l') ho (by rw [hl]; exact hsz) hx hh (by rw [hl]; exact arr_len hn) (fun σ κ v hv => by
    rw [hy] at hv
    have hv : v = arrV f l' := hv
    subst hv
    exact ⟨l'.map f, rfl, all2_is _, fun u hu => by
      obtain ⟨g, _, rfl⟩ := List.mem_map.1 hu
      exact h1 g⟩) (fun s hs => by rw [Arr, is_nosup] at hs; cases hs)
  have e : (Arr f l).take 0 ++ Arr f l' ++ (Arr f l).drop (0 + (Arr f l').length) = Arr f l' := by
    rw [hl, List.take_zero, List.nil_append, List.drop_eq_nil_of_le (by simp [Arr]; omega), List.append_nil]
  rw [e] at hv
  exact hv
theorem Valid.indexall {G : Type} {f : G → Value} {l : List G} (d : G) {t el : TypeId} {x y : Operand} {k : IntKind} {i : Int} {n : Nat} (ho : o.op = .index t x y) (ht : P.underlying t = some (.array n el)) (hag : ∀ w, (isAgg el).run P w = .ok false w) (hsz : ∀ w, (sizeOf el).run P w = .ok 1 w) (hx : ρ x = Is (arrV f l)) (hy : ρ y = Is (.int k i)) (hn : l.length = n) (hi : 0 ≤ i ∧ i < n) :
    Valid P nid o ρ h ⟨Is (f (l.getD i.toNat d)), [], []⟩ :=
  .known _ fun ev w hev => by
    have h1 := hev x (by rw [ho]; simp [Op.operands]) _ hx
    have h2 := hev y (by rw [ho]; simp [Op.operands]) _ hy
    have h3 : i.toNat < l.length := by omega
    have h4 : ((l.map f).toArray)[i.toNat]? = some (f (l.getD i.toNat d)) := by
      rw [List.getD_eq_getElem?_getD, List.getElem?_eq_getElem h3]
      simp [h3]
    unfold execOp
    rw [ho]
    simp only [h1, h2, arrV, Instr.index, asIntOf, Sem.run_bind, Sem.run_pure, Result.andThen_ok, run_underlying ht, if_pos hi, hsz, part, hag, Nat.mul_one, h4]
    rfl
theorem leq_arrV {θ : Nat → Nat} {A B : AV} {G : Type} {f : G → Value} {l l' : List G} (h : A = Is (arrV f l)) (h' : B = Is (arrV f l')) (e : l = l') : A.leq θ B := fun σ κ u hu => by
  subst h h' e; exact hu
end
end Ab
end Go.Proofs.Ytmilegikgbmjpaa
