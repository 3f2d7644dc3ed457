/-
  The evaluator is right: an operation of any kind. No program is named here.
-/
import Derived.Test.YthgmacoljkljfaaEvD
namespace Go.Proofs.Ythgmacoljkljfaa
open Go
section
variable {P : Program} {call : CallT} {w0 : World} {ρ : Nat → Nat} {tm : List AV} {own : Own} {a : Act} {w : World} {o : Oper} {K : Act → World → Prop} {Q : Exit → Act → World → Prop}
theorem partV_run {t : TypeId} {cs : Array Value} {off : Nat} {v : Value} (h : partV P t cs off = some v) (w : World) : (part t cs off).run P w = .ok v w := by
  unfold partV at h
  split at h
  · rename_i n hn
    simp only [Option.some.injEq] at h; subst h
    simp [part, (aggSize_true hn).1, (aggSize_true hn).2]
  · rename_i n hn
    simp [part, aggSize_false hn, h]
  · cases h
theorem fieldsB_run {eq : TypeId → Value → Value → Option Bool} {d : Nat} (heq : ∀ t x y b, eq t x y = some b → ∀ w, (Op.equalIn d t x y).run P w = .ok b w) {xs ys : Array Value} :
    ∀ {fs : List Field} {b : Bool}, fieldsB P eq xs ys fs = some b → ∀ w, (Op.eqFields d xs ys fs).run P w = .ok b w
  | [], _, h, w => by simp only [fieldsB, Option.some.injEq] at h; subst h; simp [Op.eqFields]
  | f :: r, b, h, w => by
    simp only [fieldsB] at h
    split at h
    · cases h
    · rename_i hn
      split at h
      · rename_i x y hx hy
        split at h
        · rename_i p q hp hq
          simp only [Option.some.injEq] at h; subst h
          have e1 := heq _ _ _ _ hp w
          have e2 := fieldsB_run heq hq w
          cases p <;> simp [Op.eqFields, hn, partV_run hx, partV_run hy, e1, e2]
        · cases h
      · cases h
theorem elems_run {eq : TypeId → Value → Value → Option Bool} {d : Nat} (heq : ∀ t x y b, eq t x y = some b → ∀ w, (Op.equalIn d t x y).run P w = .ok b w) {xs ys : Array Value} {e : TypeId} {n : Nat} (w : World) :
    ∀ (m i : Nat) (b : Bool), elemsB P eq e n xs ys i m = some b →
    ((forIn (List.range' i m 1) ((none, ()) : Option Bool × Unit) fun i _ => do
        if (!(← Op.equalIn d e (← part e xs (i * n)) (← part e ys (i * n)))) = true then pure (ForInStep.done (some false, ())) else pure (ForInStep.yield (none, ()))) : Sem _).run P w
      = .ok ((if b then none else some false, ()) : Option Bool × Unit) w
  | 0, i, b, h => by simp only [elemsB, Option.some.injEq] at h; subst h; simp
  | m + 1, i, b, h => by
    simp only [elemsB] at h
    split at h
    · rename_i x y hx hy
      split at h
      · rename_i p q hp hq
        simp only [Option.some.injEq] at h; subst h
        have e1 := heq _ _ _ _ hp w
        have e2 := elems_run heq w m (i + 1) q hq
        cases p
        · simp [List.range'_succ, partV_run hx, partV_run hy, e1]
        · simp only [List.range'_succ, List.forIn_cons, Sem.run_bind, partV_run hx, partV_run hy, e1, Result.andThen_ok, Bool.not_true, Bool.false_eq_true, if_false, Sem.run_pure, e2, Bool.true_and]
      · cases h
    · cases h
theorem eqB_run : ∀ {d : Nat} {t : TypeId} {x y : Value} {b : Bool}, eqB P d t x y = some b → ∀ D, d ≤ D → ∀ w, (Op.equalIn D t x y).run P w = .ok b w
  | 0, _, _, _, _, h, _, _, _ => by cases h
  | d + 1, t, x, y, b, h, D, hD, w => by
    obtain ⟨D, rfl⟩ : ∃ D', D = D' + 1 := ⟨D - 1, by omega⟩
    have ih : ∀ t x y b, eqB P d t x y = some b → ∀ w, (Op.equalIn D t x y).run P w = .ok b w := fun t x y b h w => eqB_run h D (by omega) w
    simp only [eqB] at h
    split at h
    · rename_i hu; simp only [Option.some.injEq] at h; subst h; simp [Op.equalIn, run_und hu]
    · rename_i hu
      split at h
      · rename_i hk; simp only [Option.some.injEq] at h; subst h; simp [Op.equalIn, run_und hu, hk]
      · cases h
    · rename_i hu; simp only [Option.some.injEq] at h; subst h; simp [Op.equalIn, run_und hu]
    · rename_i fs xs ys hu
      split at h
      · cases h
      · rename_i hs
        have hf : P.fieldsOf t = fs := by simp [Program.fieldsOf, hu]
        rw [run_equalIn_struct w D t xs ys (by rw [hf]; exact hu) (by simpa using hs), hf]
        exact fieldsB_run ih h w
    · rename_i len e xs ys hu
      split at h
      · rename_i i hi
        have := elems_run ih w len 0 b h
        simp only [Op.equalIn, Sem.run_bind, run_und hu, Result.andThen_ok, run_size hi]
        rw [Std.Legacy.Range.forIn_eq_forIn_range']
        simp only [Std.Legacy.Range.size, Nat.sub_zero, Nat.add_sub_cancel, Nat.div_one]
        cases b <;> simp_all
      · cases h
    · cases h
theorem call_run {f : Operand} {args : Array Operand} {ats : Array TypeId} (ho : o.op = .call ⟨.value f, args, ats⟩) {n : FuncId} (hf : a.eval f = .func (.func n) #[] #[]) (hn : callable P n = true) :
    (execOp a.eval o).run P w = .ok (.enter n (args.map a.eval)) w := by
  unfold callable at hn
  split at hn
  · rename_i fn hfn
    simp only [Bool.and_eq_true, Bool.not_eq_true', beq_eq_false_iff_ne, ne_eq, Option.isSome_iff_exists] at hn
    obtain ⟨h1, c, h2⟩ := hn
    simp [execOp, ho, resolve, hf, Deferred.ofValue, invoke, callFunc, hfn, h1, h2]
  · cases hn
theorem opT_sound (hc : CallOK P call) {key : Nat} {x : AV} {own' : Own} (h : (opT P call key o tm own).val = some (x, own')) (r : Rep w0 ρ tm own a w)
    (hK : ∀ ρ' u w', Rep w0 ρ' tm own' a w' → x.is ρ' u → x.ok own' → K (a.put o.dst u) w') : o.wp P a w K Q := by
  unfold opT at h
  split at h
  case h_1 y ho =>
    simp only [Tr.val, Option.some.injEq, Prod.mk.injEq] at h
    obtain ⟨rfl, rfl⟩ := h
    exact wp_value (u := a.eval y) (by simp [execOp, ho]) (hK ρ _ w r (r.eval y) (r.okO y))
  case h_2 y ho =>
    simp only [Tr.val, Option.some.injEq, Prod.mk.injEq] at h
    obtain ⟨rfl, rfl⟩ := h
    exact wp_value (u := a.eval y) (by simp [execOp, ho]) (hK ρ _ w r (r.eval y) (r.okO y))
  case h_3 c y z ho =>
    split at h
    · rename_i kn t ht
      have hcv := r.eval c
      rw [ht] at hcv
      simp only [AV.is, AV.at] at hcv
      rcases Tr.val_ite_some h with ⟨hb, h⟩ | ⟨hb, h⟩ <;> (simp only [Tr.val, Option.some.injEq, Prod.mk.injEq] at h; obtain ⟨rfl, rfl⟩ := h; subst hb)
      · exact wp_value (u := a.eval y) (by simp [execOp, ho, hcv, asBool]) (hK ρ _ w r (r.eval y) (r.okO y))
      · exact wp_value (u := a.eval z) (by simp [execOp, ho, hcv, asBool]) (hK ρ _ w r (r.eval z) (r.okO z))
    · cases h
  case h_4 elem ho =>
    split at h
    · rename_i z hz
      obtain ⟨i, hi, hiz⟩ := Option.bind_eq_some_iff.1 hz
      obtain ⟨hk, rfl, rfl⟩ := newBlock_some h
      have hzv : (zeroValue elem).run P w = .ok z w := by simp [zeroValue, run_info hi, hiz]
      refine wp_value (u := .pointer (some ⟨w.heap.size, 0, none⟩)) (w' := w.alloc (.cells z.cells elem)) (by simp [execOp, ho, Instr.alloc, hzv, run_newVar]) ?_
      refine hK _ _ _ (r.new hk (fun j y hj => ?_) (fun y hy => ?_)) ?_ ?_
      · simp only [List.getElem?_map, Option.map_eq_some_iff] at hj
        obtain ⟨v, hv, rfl⟩ := hj
        exact ⟨v, by simpa using hv, by simp [AV.is, AV.at]⟩
      · simp only [List.mem_map] at hy
        obtain ⟨_, _, rfl⟩ := hy; exact trivial
      · simp [AV.is, AV.at]
      · simp [AV.ok, Own.set]
    · cases h
  case h_5 elem y ho =>
    split at h
    · rename_i hall
      obtain ⟨hk, rfl, rfl⟩ := newBlock_some h
      obtain ⟨_, h2, _⟩ := cells_opd (r.eval y) hall
      refine wp_value (u := .pointer (some ⟨w.heap.size, 0, none⟩)) (w' := w.alloc (.cells (a.eval y).cells elem)) (by simp [execOp, ho, Instr.box, run_newVar]) ?_
      refine hK _ _ _ (r.new hk (fun j z hj => ?_) (ok_asCells (r.okO y))) ?_ ?_
      · obtain ⟨v, hv, hz⟩ := h2 j z hj
        exact ⟨v, by simpa using hv, hz⟩
      · simp [AV.is, AV.at]
      · simp [AV.ok, Own.set]
    · cases h
  case h_6 t y ho =>
    split at h
    · rename_i k off hp
      have hy := r.eval y
      rw [hp] at hy
      simp only [AV.is, AV.at] at hy
      split at h
      · rename_i cells n hk ht
        split at h
        · rename_i kn vs hr
          split at h
          · rename_i hl
            simp only [Tr.val, Option.some.injEq, Prod.mk.injEq] at h
            obtain ⟨rfl, rfl⟩ := h
            have := load_run (P := P) r hk ht hr (by simpa using hl)
            exact wp_value (u := .agg vs.toArray) (by simp [execOp, ho, hy, Instr.loadAt, Instr.sureAddr, this]) (hK ρ _ w r (by simp [AV.is, AV.at]) trivial)
          · cases h
        · cases h
      · rename_i cells n hk ht
        split at h
        · rename_i z hz
          simp only [Tr.val, Option.some.injEq, Prod.mk.injEq] at h
          obtain ⟨rfl, rfl⟩ := h
          obtain ⟨u, hu, hzu⟩ := load_run1 (P := P) r hk ht hz
          exact wp_value (u := u) (by simp [execOp, ho, hy, Instr.loadAt, Instr.sureAddr, hu]) (hK ρ _ w r hzu (r.okC k cells hk z (List.mem_of_getElem? hz)))
        · cases h
      · cases h
    · cases h
  case h_7 t y z ho =>
    split at h
    · rename_i k off hp
      have hy := r.eval y
      rw [hp] at hy
      simp only [AV.is, AV.at] at hy
      split at h
      · rename_i cells i hk hi
        split at h
        · rename_i hb
          simp only [Bool.and_eq_true, beq_iff_eq, decide_eq_true_eq] at hb
          obtain ⟨⟨hb1, hb2⟩, hb3⟩ := hb
          simp only [Tr.val, Option.some.injEq, Prod.mk.injEq] at h
          obtain ⟨rfl, rfl⟩ := h
          obtain ⟨c1, c2, c3⟩ := cells_opd (r.eval z) hb3
          have hst : (storeVar t ⟨ρ k, off, none⟩ (a.eval z)).run P w = .ok () (w.setCells (ρ k) off (a.eval z).cells.toList) := by
            have := run_storeCells_cells (P := P) (ρ k) off (a.eval z).cells.toList 0 w (fun j hj => by
                obtain ⟨u, hu, _⟩ := r.cell k cells hk (off + j) cells[off + j] (List.getElem?_eq_getElem (by omega))
                rw [Nat.add_zero, hu]; rfl) (fun j hj => r.fz k cells hk _) c3
            have hs : (a.eval z).cells.size = i.size := by rw [← Array.length_toList, c1, hb1]
            simp [storeVar, run_size hi, hs, this]
          refine wp_skip' (w' := w.setCells (ρ k) off (a.eval z).cells.toList) (by simp [execOp, ho, hy, Instr.storeAt, Instr.sureAddr, hst]) ?_
          exact hK ρ _ _ (r.store hk hb2 c1 c2 (ok_asCells (r.okO z))) (by simp [AV.is, AV.at]) trivial
        · cases h
      · cases h
    · cases h
  case h_8 s y f ho =>
    split at h
    · rename_i k off fs hp hs
      have hy := r.eval y
      have hok := r.okO y
      rw [hp] at hy hok
      simp only [AV.is, AV.at] at hy
      split at h
      · rename_i fd hfd
        split at h
        · rename_i m hm
          obtain ⟨i, hi, him⟩ := Option.map_eq_some_iff.1 hm
          simp only [Tr.val, Option.some.injEq, Prod.mk.injEq] at h
          obtain ⟨rfl, rfl⟩ := h
          have hz : ¬ (i.size = 0) := by omega
          refine wp_value (u := .pointer (some ⟨ρ k, off + fd.offset, none⟩)) ?_ (hK ρ _ w r (by simp [AV.is, AV.at]) hok)
          simp [execOp, ho, hy, Instr.fieldAt, run_und hs, hfd, Instr.sureAddr, fieldPlace, run_size hi, hz, add_plain']
        · cases h
      · cases h
    · cases h
  case h_9 t y ix ho =>
    split at h
    · rename_i k off n e kn ik i hp ht hix
      have hy := r.eval y
      have hok := r.okO y
      have hi := r.eval ix
      rw [hp] at hy hok
      rw [hix] at hi
      simp only [AV.is, AV.at] at hy hi
      split at h
      · rename_i inf hinf
        obtain ⟨m, rfl, _, hm, h⟩ := pickAt_some h
        simp only [Tr.val, Option.some.injEq, Prod.mk.injEq] at h
        obtain ⟨rfl, rfl⟩ := h
        have h0 : (0 : Int) ≤ (m : Int) ∧ (m : Int) < (n : Int) := by omega
        refine wp_value (u := .pointer (some ⟨ρ k, off + m * inf.size, none⟩)) ?_ (hK ρ _ w r (by simp [AV.is, AV.at]) hok)
        simp [execOp, ho, hy, hi, Instr.indexAt, asIntOf, run_und ht, Instr.sureAddr, run_size hinf, add_plain', show m < n by omega]
      · cases h
    · cases h
  case h_10 y ho =>
    split at h
    · rename_i k off hp
      have hy := r.eval y
      have hok := r.okO y
      rw [hp] at hy hok
      simp only [AV.is, AV.at] at hy
      simp only [Tr.val, Option.some.injEq, Prod.mk.injEq] at h
      obtain ⟨rfl, rfl⟩ := h
      exact wp_value (u := .pointer (some ⟨ρ k, off, none⟩)) (by simp [execOp, ho, hy]) (hK ρ _ w r (by simp [AV.is, AV.at]) hok)
    · rename_i f caps hp
      have hy := r.eval y
      have hok := r.okO y
      rw [hp] at hy hok
      simp only [AV.is, AV.at] at hy
      simp only [Tr.val, Option.some.injEq, Prod.mk.injEq] at h
      obtain ⟨rfl, rfl⟩ := h
      exact wp_value (u := (AV.fn f caps).at ρ) (by simp [execOp, ho, hy, AV.at]) (hK ρ _ w r (by simp [AV.is, AV.at]) hok)
    · exact generic_sound (by rw [ho]; simp) h r hK
  case h_11 fn first caps ho =>
    split at h
    · rename_i f l hfirst hl
      simp only [Tr.val, Option.some.injEq, Prod.mk.injEq] at h
      obtain ⟨rfl, rfl⟩ := h
      have hcs := ptrAll_spec hl
      have hev : caps.toList.map a.eval = l.map fun q => Value.pointer (some ⟨ρ q.1, q.2, none⟩) := by
        apply List.ext_getElem?
        intro j
        have hj := congrArg (fun z => z[j]?) hcs
        simp only [List.getElem?_map] at hj ⊢
        cases hcj : caps.toList[j]? with
        | none => rw [hcj] at hj; cases hlj : l[j]? with
          | none => rfl
          | some q => rw [hlj] at hj; cases hj
        | some c =>
          rw [hcj] at hj
          cases hlj : l[j]? with
          | none => rw [hlj] at hj; cases hj
          | some q =>
            rw [hlj] at hj
            simp only [Option.map_some, Option.some.injEq] at hj ⊢
            have := r.eval c
            rw [hj] at this
            exact this
      have hf0 : first = #[] := by simpa using hfirst
      have hca : caps.map a.eval = (l.map fun q => Value.pointer (some ⟨ρ q.1, q.2, none⟩)).toArray := by
        rw [← hev]; exact Array.ext' (by rw [Array.toList_map])
      refine wp_value (u := (AV.fn f l).at ρ) (by simp [execOp, ho, Instr.makeFunc, AV.at, hf0, hca]) (hK ρ _ w r (by simp [AV.is]) ?_)
      intro q hq
      have hm : AV.p q.1 q.2 ∈ caps.toList.map (opd tm) := by rw [hcs]; exact List.mem_map.2 ⟨q, hq, rfl⟩
      obtain ⟨c, hc', he⟩ := List.mem_map.1 hm
      have := r.okO c
      rw [he] at this
      exact this
    · exact generic_sound (by rw [ho]; simp) h r hK
  case h_12 cl ho =>
    obtain ⟨callee, args, ats⟩ := cl
    split at h
    · rename_i f hcal
      simp only at hcal; subst hcal
      split at h
      · rename_i kn n first caps ra hf hra
        split at h
        · rename_i hfi hca hn
          obtain rfl : first = #[] := by simpa using hfi
          obtain rfl : caps = #[] := by simpa using hca
          obtain ⟨z, hz, h⟩ := Tr.bind_some h
          simp only [Tr.val, Option.some.injEq, Prod.mk.injEq] at h
          obtain ⟨rfl, rfl⟩ := h
          have hfv := r.eval f
          rw [hf] at hfv
          simp only [AV.is, AV.at] at hfv
          obtain ⟨_, hall⟩ := rawAll_spec (kn := ra.1) (l := ra.2) hra
          have hargs : args.map a.eval = (((args.toList.map (opd tm)).map fun x => (x.known, x.raw)).map (·.2)).toArray := by
            apply Array.ext'
            simp only [Array.toList_map, List.map_map]
            exact List.map_congr_left fun y hy => raw_of r hall hy
          unfold Oper.wp
          rw [call_run ho hfv hn, hargs]
          refine (hc _ _ _ hz w).mono ?_
          rintro e w' ⟨rfl, hx⟩
          exact hK ρ _ w' (r.grow hx) (by simp [AV.is, AV.at]) trivial
        · cases h
      · cases h
    · exact generic_sound (by rw [ho]; simp) h r hK
    · cases h
  case h_13 op t y z yt ho =>
    split at h
    · rename_i k1 k x k2 k' x' h1 h2
      have e1 := r.eval y
      have e2 := r.eval z
      rw [h1] at e1; rw [h2] at e2
      simp only [AV.is, AV.at] at e1 e2
      split at h
      · rename_i hk
        have hk : k = k' := by simpa using hk
        rcases Tr.val_ite_some h with ⟨hb, h⟩ | ⟨_, h⟩
        · simp only [Tr.val, Option.some.injEq, Prod.mk.injEq] at h
          obtain ⟨rfl, rfl⟩ := h
          refine wp_value (u := .int k (k.wrap (x.tdiv x'))) ?_ (hK ρ _ w r (by simp [AV.is, AV.at]) trivial)
          simp [execOp, ho, e1, e2, eqGuard, binOp, hk, Op.intDiv, show ¬ (x' = 0) by simpa using hb]
        · cases h
      · cases h
    · rename_i k1 k x k2 k' x' h1 h2
      have e1 := r.eval y
      have e2 := r.eval z
      rw [h1] at e1; rw [h2] at e2
      simp only [AV.is, AV.at] at e1 e2
      split at h
      · rename_i hk
        have hk : k = k' := by simpa using hk
        rcases Tr.val_ite_some h with ⟨hb, h⟩ | ⟨_, h⟩
        · simp only [Tr.val, Option.some.injEq, Prod.mk.injEq] at h
          obtain ⟨rfl, rfl⟩ := h
          refine wp_value (u := .int k (x.tmod x')) ?_ (hK ρ _ w r (by simp [AV.is, AV.at]) trivial)
          simp [execOp, ho, e1, e2, eqGuard, binOp, hk, Op.intDiv, show ¬ (x' = 0) by simpa using hb]
        · cases h
      · cases h
    · rename_i k1 k x k2 k' x' h1 h2
      have e1 := r.eval y
      have e2 := r.eval z
      rw [h1] at e1; rw [h2] at e2
      simp only [AV.is, AV.at] at e1 e2
      rcases Tr.val_ite_some h with ⟨hb, h⟩ | ⟨_, h⟩
      · simp only [Tr.val, Option.some.injEq, Prod.mk.injEq] at h
        obtain ⟨rfl, rfl⟩ := h
        refine wp_value (u := .int k (k.wrap (x * 2 ^ (min x'.toNat k.bits)))) ?_ (hK ρ _ w r (by simp [AV.is, AV.at]) trivial)
        simp only [decide_eq_true_eq] at hb
        simp [execOp, ho, e1, e2, eqGuard, binOp, Op.shift, show ¬ (x' < 0) by omega]
      · cases h
    · rename_i k1 k x k2 k' x' h1 h2
      have e1 := r.eval y
      have e2 := r.eval z
      rw [h1] at e1; rw [h2] at e2
      simp only [AV.is, AV.at] at e1 e2
      rcases Tr.val_ite_some h with ⟨hb, h⟩ | ⟨_, h⟩
      · simp only [Tr.val, Option.some.injEq, Prod.mk.injEq] at h
        obtain ⟨rfl, rfl⟩ := h
        refine wp_value (u := .int k (x.fdiv (2 ^ (min x'.toNat k.bits)))) ?_ (hK ρ _ w r (by simp [AV.is, AV.at]) trivial)
        simp only [decide_eq_true_eq] at hb
        simp [execOp, ho, e1, e2, eqGuard, binOp, Op.shift, show ¬ (x' < 0) by omega]
      · cases h
    · rename_i k1 xs k2 ys h1 h2
      have e1 := r.eval y
      have e2 := r.eval z
      rw [h1] at e1; rw [h2] at e2
      simp only [AV.is, AV.at] at e1 e2
      split at h
      · rename_i b hg hb
        simp only [Tr.val, Option.some.injEq, Prod.mk.injEq] at h
        obtain ⟨rfl, rfl⟩ := h
        refine wp_value (u := .bool b) ?_ (hK ρ _ w r (by simp [AV.is, AV.at]) trivial)
        have := eqB_run hb Op.maxDepth (by decide) w
        simp [execOp, ho, e1, e2, eqGuard, hg, binOp, Op.equal, this]
      · cases h
    · rename_i k1 xs k2 ys h1 h2
      have e1 := r.eval y
      have e2 := r.eval z
      rw [h1] at e1; rw [h2] at e2
      simp only [AV.is, AV.at] at e1 e2
      split at h
      · rename_i b hg hb
        simp only [Tr.val, Option.some.injEq, Prod.mk.injEq] at h
        obtain ⟨rfl, rfl⟩ := h
        refine wp_value (u := .bool !b) ?_ (hK ρ _ w r (by simp [AV.is, AV.at]) trivial)
        have := eqB_run hb Op.maxDepth (by decide) w
        simp [execOp, ho, e1, e2, eqGuard, hg, binOp, Op.equal, this]
      · cases h
    · rename_i k1 xs k2 ys h1 h2
      have e1 := r.eval y
      have e2 := r.eval z
      rw [h1] at e1; rw [h2] at e2
      simp only [AV.is, AV.at] at e1 e2
      split at h
      · rename_i b hb
        simp only [Tr.val, Option.some.injEq, Prod.mk.injEq] at h
        obtain ⟨rfl, rfl⟩ := h
        refine wp_value (u := .bool b) ?_ (hK ρ _ w r (by simp [AV.is, AV.at]) trivial)
        have := eqB_run hb Op.maxDepth (by decide) w
        simp [execOp, ho, e1, e2, eqGuard, binOp, Op.equal, this]
      · cases h
    · rename_i k1 xs k2 ys h1 h2
      have e1 := r.eval y
      have e2 := r.eval z
      rw [h1] at e1; rw [h2] at e2
      simp only [AV.is, AV.at] at e1 e2
      split at h
      · rename_i b hb
        simp only [Tr.val, Option.some.injEq, Prod.mk.injEq] at h
        obtain ⟨rfl, rfl⟩ := h
        refine wp_value (u := .bool !b) ?_ (hK ρ _ w r (by simp [AV.is, AV.at]) trivial)
        have := eqB_run hb Op.maxDepth (by decide) w
        simp [execOp, ho, e1, e2, eqGuard, binOp, Op.equal, this]
      · cases h
    · exact generic_sound (by rw [ho]; simp) h r hK
  case h_20 => cases h
  all_goals (rename_i ho; exact generic_sound (by rw [ho]; simp) h r hK)
end
end Go.Proofs.Ythgmacoljkljfaa
