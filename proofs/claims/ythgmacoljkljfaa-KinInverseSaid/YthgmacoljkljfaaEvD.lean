/-
  The evaluator is right: what one operation does. No program is named here.
-/
import Derived.Test.YthgmacoljkljfaaEvC
namespace Go.Proofs.Ythgmacoljkljfaa
open Go
/-- What the evaluator takes of calls: they answer so, and leave old memory as it was. -/
def CallOK (P : Program) (call : CallT) : Prop := ∀ f args r, (call f args).val = some r → ∀ w, Calls P f (args.map (·.2)).toArray w fun e w' => e = .returned r.2 ∧ Ext w w'
section
variable {P : Program} {call : CallT} {w0 : World} {ρ : Nat → Nat} {tm : List AV} {own : Own} {a : Act} {w : World} {o : Oper} {K : Act → World → Prop} {Q : Exit → Act → World → Prop}
theorem wp_value {u : Value} {w' : World} (h : (execOp a.eval o).run P w = .ok (.value u) w') (hK : K (a.put o.dst u) w') : o.wp P a w K Q := by
  unfold Oper.wp; rw [h]; exact hK
theorem wp_skip' {w' : World} (h : (execOp a.eval o).run P w = .ok .skip w') (hK : K (a.put o.dst undef) w') : o.wp P a w K Q := by
  unfold Oper.wp; rw [h]; exact hK
theorem raw_of {xs : List Operand} (r : Rep w0 ρ tm own a w) (h : (xs.map (opd tm)).all AV.isV = true) {x : Operand} (hx : x ∈ xs) : a.eval x = (opd tm x).raw := by
  rw [List.all_eq_true] at h
  exact AV.isV_is (r.eval x) (h _ (List.mem_map.2 ⟨x, hx, rfl⟩))
theorem generic_sound {x : AV} {own' : Own} (hsel : ∀ cs b, o.op ≠ .select cs b) (h : (generic P o tm own).val = some (x, own')) (r : Rep w0 ρ tm own a w)
    (hK : ∀ ρ' u w', Rep w0 ρ' tm own' a w' → x.is ρ' u → x.ok own' → K (a.put o.dst u) w') : o.wp P a w K Q := by
  unfold generic at h
  split at h
  · cases h
  · rename_i hall
    have e : execOp a.eval o = execOp (fun x => (opd tm x).raw) o := execOp_congr o hsel fun y hy => raw_of r hall (by simpa using hy)
    split at h
    · rename_i y hy
      simp only [Tr.val, Option.some.injEq, Prod.mk.injEq] at h
      obtain ⟨rfl, rfl⟩ := h
      exact wp_value (by rw [e]; exact pureRun_run hy w) (hK ρ y w r (by simp [AV.is, AV.at]) trivial)
    · cases h
theorem pickAt_some {α : Type} {kn : Bool} {i : Int} {f : Nat → Tr α} {z : α} : ∀ {m j : Nat}, (pickAt kn i f j m).val = some z → ∃ n : Nat, i = (n : Int) ∧ j ≤ n ∧ n < j + m ∧ (f n).val = some z
  | 0, _, h => by cases h
  | m + 1, j, h => by
    simp only [pickAt] at h
    rcases Tr.val_ite_some h with ⟨hb, h⟩ | ⟨_, h⟩
    · exact ⟨j, by simpa using hb, Nat.le_refl _, by omega, h⟩
    · obtain ⟨n, h1, h2, h3, h4⟩ := pickAt_some h
      exact ⟨n, h1, by omega, by omega, h4⟩
theorem rawAll_spec : ∀ {xs : List AV} {kn : Bool} {l : List Value}, rawAll xs = some (kn, l) → l = xs.map AV.raw ∧ xs.all AV.isV = true
  | [], _, _, h => by simp only [rawAll, Option.some.injEq, Prod.mk.injEq] at h; obtain ⟨_, rfl⟩ := h; simp
  | .v k x :: r, _, _, h => by
    simp only [rawAll] at h
    split at h
    · rename_i k' l' h'
      simp only [Option.some.injEq, Prod.mk.injEq] at h
      obtain ⟨_, rfl⟩ := h
      obtain ⟨e1, e2⟩ := rawAll_spec h'
      simp [AV.raw, AV.isV, e1, e2]
    · cases h
  | .p .. :: _, _, _, h | .fn .. :: _, _, _, h | .junk :: _, _, _, h => by simp [rawAll] at h
theorem ptrAll_spec : ∀ {xs : List AV} {l : List (Nat × Nat)}, ptrAll xs = some l → xs = l.map fun q => AV.p q.1 q.2
  | [], _, h => by simp only [ptrAll, Option.some.injEq] at h; subst h; rfl
  | .p k off :: r, _, h => by
    simp only [ptrAll] at h
    split at h
    · rename_i l' h'
      simp only [Option.some.injEq] at h
      subst h
      simp [ptrAll_spec h']
    · cases h
  | .v .. :: _, _, h | .fn .. :: _, _, h | .junk :: _, _, h => by simp [ptrAll] at h
theorem run_info {t : TypeId} {i : TypeInfo} (h : P.info? t = some i) : (typeInfo t).run P w = .ok i w := by simp [typeInfo, h]
theorem run_und {t : TypeId} {d : TypeDesc} (h : P.underlying t = some d) : (underlying t).run P w = .ok d w := by simp [underlying, h]
theorem run_size {t : TypeId} {i : TypeInfo} (h : P.info? t = some i) : (sizeOf t).run P w = .ok i.size w := by simp [sizeOf, run_info h]
theorem aggSize_true {t : TypeId} {n : Nat} (h : aggSize P t = some (true, n)) : (isAgg t).run P w = .ok true w ∧ (sizeOf t).run P w = .ok n w := by
  unfold aggSize at h
  split at h
  · rename_i f i hu hi
    simp only [Option.some.injEq, Prod.mk.injEq, true_and] at h; subst h
    exact ⟨by simp [isAgg, run_und hu], run_size hi⟩
  · rename_i e n' i hu hi
    simp only [Option.some.injEq, Prod.mk.injEq, true_and] at h; subst h
    exact ⟨by simp [isAgg, run_und hu], run_size hi⟩
  · simp at h
  · simp at h
theorem aggSize_false {t : TypeId} {n : Nat} (h : aggSize P t = some (false, n)) : (isAgg t).run P w = .ok false w := by
  unfold aggSize at h
  split at h
  · simp at h
  · simp at h
  · rename_i d i h1 h2 hu hi
    cases d <;> first | exact absurd rfl (h1 _) | exact absurd rfl (h2 _ _) | simp [isAgg, run_und hu]
  · simp at h
theorem add_plain' (b off n : Nat) : (⟨b, off, none⟩ : Addr).add n = ⟨b, off + n, none⟩ := by
  unfold Addr.add
  split
  · rename_i h; subst h; rfl
  · rfl
theorem cells_opd {x : Operand} {u : Value} (hx : (opd tm x).is ρ u) (hj : (asCells (opd tm x)).all AV.one = true) :
    u.cells.toList.length = (asCells (opd tm x)).length ∧ (∀ (j : Nat) y, (asCells (opd tm x))[j]? = some y → ∃ v, u.cells.toList[j]? = some v ∧ y.is ρ v) ∧ ∀ v ∈ u.cells.toList, v.oneCell' = true := by
  generalize opd tm x = z at *
  cases z with
  | v kn y =>
    simp only [AV.is, AV.at] at hx; subst hx
    refine ⟨by simp [asCells], fun j y' hj' => ?_, fun v hv => ?_⟩
    · simp only [asCells, List.getElem?_map, Option.map_eq_some_iff] at hj'
      obtain ⟨v, hv, rfl⟩ := hj'
      exact ⟨v, hv, by simp [AV.is, AV.at]⟩
    · simp only [asCells, List.all_eq_true, List.mem_map] at hj
      exact hj (AV.v kn v) ⟨v, hv, rfl⟩
  | p k off =>
    simp only [AV.is, AV.at] at hx; subst hx
    refine ⟨by simp [asCells, Value.cells], fun j y' hj' => ?_, fun v hv => ?_⟩
    · cases j with
      | zero => simp only [asCells, List.getElem?_cons_zero, Option.some.injEq] at hj'; subst hj'; exact ⟨_, rfl, by simp [AV.is, AV.at]⟩
      | succ j => simp [asCells] at hj'
    · simp [Value.cells] at hv; subst hv; rfl
  | fn f caps =>
    simp only [AV.is, AV.at] at hx; subst hx
    refine ⟨by simp [asCells, Value.cells], fun j y' hj' => ?_, fun v hv => ?_⟩
    · cases j with
      | zero => simp only [asCells, List.getElem?_cons_zero, Option.some.injEq] at hj'; subst hj'; exact ⟨_, rfl, by simp [AV.is, AV.at]⟩
      | succ j => simp [asCells] at hj'
    · simp [Value.cells] at hv; subst hv; rfl
  | junk => simp [asCells, AV.one] at hj
theorem ok_asCells {x : Operand} (h : (opd tm x).ok own) : ∀ y ∈ asCells (opd tm x), y.ok own := by
  generalize opd tm x = z at *
  cases z with
  | v kn y => intro y' hy; simp only [asCells, List.mem_map] at hy; obtain ⟨_, _, rfl⟩ := hy; exact trivial
  | p k off => intro y' hy; simp only [asCells, List.mem_singleton] at hy; subst hy; exact h
  | fn f caps => intro y' hy; simp only [asCells, List.mem_singleton] at hy; subst hy; exact h
  | junk => intro y' hy; simp only [asCells, List.mem_singleton] at hy; subst hy; exact h
theorem newBlock_some {key : Nat} {cs : List AV} {x : AV} {own' : Own} (h : (newBlock key cs own).val = some (x, own')) : own key = none ∧ x = .p key 0 ∧ own' = own.set key cs := by
  unfold newBlock at h
  split at h
  · cases h
  · rename_i hk
    simp only [Tr.val, Option.some.injEq, Prod.mk.injEq] at h
    exact ⟨hk, h.1.symm, h.2.symm⟩
theorem run_newVar {t : TypeId} {u : Value} : (newVar t u).run P w = .ok ⟨w.heap.size, 0, none⟩ (w.alloc (.cells u.cells t)) := by
  simp only [newVar, newRow, newObj, Sem.run_bind, Sem.run_pure]
  rfl
theorem load_run (r : Rep w0 ρ tm own a w) {t : TypeId} {k off n : Nat} {cells : List AV} {kn : Bool} {vs : List Value} (hk : own k = some cells) (ht : aggSize P t = some (true, n)) (hr : rawAll ((cells.drop off).take n) = some (kn, vs)) (hl : vs.length = n) :
    (loadVar t ⟨ρ k, off, none⟩).run P w = .ok (.agg vs.toArray) w := by
  obtain ⟨e1, e2⟩ := rawAll_spec hr
  have hc := run_loadCells_list (P := P) w ⟨ρ k, off, none⟩ vs (fun j v hj => by
    rw [add_plain']
    rw [e1, List.getElem?_map, Option.map_eq_some_iff] at hj
    obtain ⟨y, hy, rfl⟩ := hj
    have hv : y.isV = true := (List.all_eq_true.1 e2) y (List.mem_of_getElem? hy)
    rw [List.getElem?_take] at hy
    split at hy
    · rw [List.getElem?_drop] at hy
      obtain ⟨u, hu, hyu⟩ := r.cell k cells hk _ y hy
      rw [hu, AV.isV_is hyu hv]
    · cases hy)
  rw [hl] at hc
  simp [loadVar, (aggSize_true ht).1, (aggSize_true ht).2, hc]
theorem load_run1 (r : Rep w0 ρ tm own a w) {t : TypeId} {k off n : Nat} {cells : List AV} {x : AV} (hk : own k = some cells) (ht : aggSize P t = some (false, n)) (hx : cells[off]? = some x) :
    ∃ u, (loadVar t ⟨ρ k, off, none⟩).run P w = .ok u w ∧ x.is ρ u := by
  obtain ⟨u, hu, hxu⟩ := r.cell k cells hk off x hx
  exact ⟨u, by simp [loadVar, aggSize_false ht, hu], hxu⟩
end
end Go.Proofs.Ythgmacoljkljfaa
