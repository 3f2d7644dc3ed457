/-
  The evaluator: how it is used: contracts, loops. No program is named here.
-/
import Derived.Test.YtacgchandefjgaaFvU
namespace Go.Proofs.Ytacgchandefjgaa
open Go
/-- A loop's rounds, as many as there may be. -/
def loopN {σ τ : Type} (step : σ → Tr (σ ⊕ τ)) : Nat → σ → Option τ
  | 0, _ => none
  | n + 1, s => match (step s).val with | some (.inl s') => loopN step n s' | some (.inr t) => some t | none => none
/-- These temporaries are not spoken of any more. -/
def junks : List Nat → List AV → List AV
  | [], tm => tm
  | j :: r, tm => junks r (tm.set j .junk)
/-- At the end of a round: what the round wrote alone goes, and so do blocks that were not there before. -/
def canon (W ks : List Nat) (nx : Nat) (st : Stt) : Stt := ⟨junks W st.tm, st.own.filter (fun q => ks.contains q.1), nx⟩
def canonOk (ks : List Nat) (st : Stt) : Bool := st.tm.all (fun x => x.keys.all fun k => ks.contains k) && (st.own.all (fun q => q.2.keys.all fun k => ks.contains k) && ks.all fun k => has st.own k)
def finL (W ks : List Nat) (nx : Nat) (r : Ex × Stt × Dec) : Tr (Ex × Stt) :=
  match canonOk ks (canon W ks nx r.2.1) with
  | true => .ret (r.1, canon W ks nx r.2.1)
  | false => .bad 131
section
variable {P : Program} {w0 : World} {fr0 : Nat → Prop} {ρ : Nat → Option Nat} {fr : Nat → Prop} {a : Act} {w : World}
theorem junks_get : ∀ (W : List Nat) (tm : List AV), (junks W tm).length = tm.length ∧ ∀ (j : Nat) x, (junks W tm)[j]? = some x → x = .junk ∨ tm[j]? = some x
  | [], tm => ⟨rfl, fun _ _ h => .inr h⟩
  | i :: r, tm => by
    obtain ⟨h1, h2⟩ := junks_get r (tm.set i .junk)
    refine ⟨by simp only [junks]; rw [h1]; simp, fun j x hj => ?_⟩
    simp only [junks] at hj
    rcases h2 j x hj with h | h
    · exact .inl h
    · by_cases e : i = j
      · subst e
        by_cases hl : i < tm.length
        · rw [List.getElem?_set_self hl] at h; simp at h; exact .inl h.symm
        · rw [List.getElem?_eq_none_iff.2 (by simp; omega)] at h; cases h
      · rw [List.getElem?_set_ne e] at h; exact .inr h
theorem mem_look : ∀ {l : Own} {k : Nat} {ob : OB}, l.look k = some ob → (k, ob) ∈ l
  | [], _, _, h => by cases h
  | (i, o) :: r, k, ob, h => by
    simp only [Own.look] at h
    split at h
    · rename_i hb
      have := Nat.eq_of_beq_eq_true hb
      simp only [Option.some.injEq] at h
      subst this; subst h
      exact List.mem_cons_self
    · exact List.mem_cons_of_mem _ (mem_look h)
/-- A state in which less is spoken of. -/
theorem rep_canon {W ks : List Nat} {nx : Nat} {st : Stt} (hok : canonOk ks (canon W ks nx st) = true) (r : RepS w0 fr0 ρ fr st a w) : RepS w0 fr0 ρ fr (canon W ks nx st) a w := by
  have hok' := hok
  unfold canonOk at hok
  simp only [Bool.and_eq_true, List.all_eq_true] at hok
  obtain ⟨hT, hC, hK⟩ := hok
  have hks : ∀ k, ks.contains k = true → has (canon W ks nx st).own k = true := fun k hk => hK k (by simpa using hk)
  have hl : ∀ k ob, (canon W ks nx st).own.look k = some ob → ks.contains k = true ∧ st.own.look k = some ob := fun k ob h => by
    have h : Own.look (st.own.filter fun q => ks.contains q.1) k = some ob := h
    rw [look_filter (fun k => ks.contains k)] at h
    split at h
    · rename_i hk; exact ⟨hk, h⟩
    · cases h
  have hl2 : ∀ k, ks.contains k = true → (canon W ks nx st).own.look k = st.own.look k := fun k hk => by
    show Own.look (st.own.filter fun q => ks.contains q.1) k = _
    rw [look_filter (fun k => ks.contains k), if_pos hk]
  have hcell : ∀ k cs, (canon W ks nx st).own.look k = some (.cells cs) → ∀ j ∈ cs.flatMap CV.keys, ks.contains j = true := fun k cs h j hj => hC _ (mem_look h) j hj
  obtain ⟨j1, j2⟩ := junks_get W st.tm
  refine { ext := r.ext, bas := r.bas, frlt := r.frlt, frnew := r.frnew, frold := r.frold, cells := ?_, rows := ?_, inj := ?_, okC := ?_, len := ?_, tmp := ?_, df := r.df, okT := ?_ }
  · intro k cs hk
    obtain ⟨b, h1, h2, h3, h4, h5, h6⟩ := r.cells k cs (hl k _ hk).2
    refine ⟨b, h1, h2, h3, h4, h5, fun j c hj => ?_⟩
    obtain ⟨u, hu, hcu⟩ := h6 j c hj
    exact ⟨u, hu, CV.is_congr (fun k' hk' => hl2 k' (hcell k cs hk k' (List.mem_flatMap.2 ⟨c, List.mem_of_getElem? hj, hk'⟩))) hcu⟩
  · intro k mu kl kn e t l hk
    exact r.rows k mu kl kn e t l (hl k _ hk).2
  · intro k k' ob ob' b hk hk'
    exact r.inj k k' ob ob' b (hl k _ hk).2 (hl k' _ hk').2
  · intro k cs hk j hj
    exact hks j (hcell k cs hk j hj)
  · rw [r.len]; exact j1.symm
  · intro t x hx
    have hx' := hx
    have hlt : t < st.tm.length := by rw [← j1]; exact (List.getElem?_eq_some_iff.1 hx).1
    rcases j2 t x hx with e | h
    · subst e
      obtain ⟨u, hu, _⟩ := r.tmp t _ (List.getElem?_eq_getElem hlt)
      exact ⟨u, hu, trivial⟩
    · obtain ⟨u, hu, hxu⟩ := r.tmp t x h
      exact ⟨u, hu, AV.is_congr (fun k hk => hl2 k (hT x (List.mem_of_getElem? hx') k hk)) hxu⟩
  · intro x hx j hj
    exact hks j (hT x hx j hj)
/-- From a state to one with fewer blocks: for blocks that the first one has too. -/
theorem grow_canon {W ks : List Nat} {nx : Nat} {st0 st : Stt} {ρ0 : Nat → Option Nat} {fra : Nat → Prop} {wa : World} (hks : ∀ k, has st0.own k = true → ks.contains k = true) (g : Grow st0.own ρ0 fra wa st.own ρ fr w) : Grow st0.own ρ0 fra wa (canon W ks nx st).own ρ fr w where
  key := fun k ob hk => by
    obtain ⟨h1, ob', h2, h3⟩ := g.key k ob hk
    refine ⟨h1, ob', ?_, h3⟩
    show Own.look (st.own.filter fun q => ks.contains q.1) k = _
    rw [look_filter (fun k => ks.contains k), if_pos (hks k (has_look.2 ⟨ob, hk⟩))]; exact h2
  frz := g.frz
  frc := g.frc
  blk := g.blk
end
/-- What a round's end is. -/
def outS {σ τ : Type} (St : σ → Stt) (Out : τ → Ex × Stt) (x : σ ⊕ τ) : Tr (Ex × Stt) :=
  match x with
  | .inl s => .ret (.normal, St s)
  | .inr t => .ret (Out t)
def stOk (ks : List Nat) (st : Stt) : Prop := ∀ k, has st.own k = true → ks.contains k = true
/-- **A loop's rounds**: if each round leads from a state of the family to another one, or out. -/
theorem loop_rounds {P : Program} {call : CallT} {icall : ICallT} {On : FuncId → Bool} (hm : P.follows .mixedOrders = true) (hc : CallOK P call) (hic : IcOK P icall) {body c : Code} {L : Loops} (hL : LoopOK P body L) {at_ : List Nat} (hat : codeAt body at_.reverse = some (.loop c))
    {σ τ : Type} {St : σ → Stt} {Out : τ → Ex × Stt} {step : σ → Tr (σ ⊕ τ)} {W ks : List Nat} {nx n : Nat} (hks : ∀ s, stOk ks (St s)) (hne : ∀ t, (Out t).1 ≠ .normal)
    (hstep : ∀ s, (evalC P call icall On L n (0 :: at_) c (St s) []).bind (finL W ks nx) = (step s).bind (outS St Out)) :
    ∀ fuel s t, loopN step fuel s = some t → ∀ w0 fr0 ρ fr a w (Q : Exit → Act → World → Prop), RepS w0 fr0 ρ fr (St s) a w → (∀ ρ' fr' a' w', RepS w0 fr0 ρ' fr' (Out t).2 a' w' → Grow (St s).own ρ fr w (Out t).2.own ρ' fr' w' → Q (Out t).1.toExit a' w') → LoopWp P c Q a w
  | 0, s, t, h => by cases h
  | fuel + 1, s, t, h => by
    intro w0 fr0 ρ fr a w Q r hQ
    simp only [loopN] at h
    cases hv : (step s).val with
    | none => rw [hv] at h; cases h
    | some x =>
      have h1 := congrArg Tr.val (hstep s)
      rw [Tr.val_bind, Tr.val_bind, hv, Option.bind_some] at h1
      have h2 : ∃ y, (outS St Out x).val = some y := by cases x <;> exact ⟨_, rfl⟩
      obtain ⟨y, hy⟩ := h2
      rw [hy] at h1
      obtain ⟨⟨ex, st', dec'⟩, h3, h4⟩ := Option.bind_eq_some_iff.1 h1
      unfold finL at h4
      split at h4
      · rename_i hok
        have h4 := ret_some h4
        have nodec : Dec.Ok [] (St s).tm := fun d b hl => by simp [Dec.look] at hl
        refine loopWp_round ((code_sound hm hc hic hL n).1 (codeAt_child hat 0 (by simp [codeAt])) h3 nodec r fun _ ρ' fr' a' w' r' g' => ?_)
        have r2 := rep_canon hok r'
        have g2 := grow_canon (W := W) (nx := nx) (hks s) g'
        cases x with
        | inl s' =>
          rw [hv] at h
          have hy' := ret_some hy
          rw [← hy', Prod.mk.injEq] at h4
          obtain ⟨hex, hst⟩ := h4
          simp only at hex hst
          rw [hex]
          rw [hst] at r2 g2
          exact loop_rounds hm hc hic hL hat hks hne hstep fuel s' t h w0 fr0 ρ' fr' a' w' Q r2 fun ρ2 fr2 a2 w2 r3 g3 => hQ ρ2 fr2 a2 w2 r3 (g2.trans g3)
        | inr t' =>
          rw [hv] at h
          simp only [Option.some.injEq] at h
          subst h
          have hy' := ret_some hy
          rw [← hy'] at h4
          have he1 : ex = (Out t').1 := congrArg Prod.fst h4
          have he2 : canon W ks nx st' = (Out t').2 := congrArg Prod.snd h4
          rw [he2] at r2 g2
          have hn : ex.toExit = (Out t').1.toExit := by rw [he1]
          have hn2 := hne t'
          rw [← he1] at hn2
          cases ex with
          | normal => exact absurd rfl hn2
          | ret => rw [← he1] at hQ; exact hQ ρ' fr' a' w' r2 g2
          | exit id => rw [← he1] at hQ; exact hQ ρ' fr' a' w' r2 g2
      · cases h4
/-- x says what y says, but for flags. -/
def AV.weak (x y : AV) : Prop := x = .junk ∨ x.clr = y.clr
/-- st tells at most what s tells. -/
def Weak (st s : Stt) : Prop := st.own = s.own ∧ st.tm.length = s.tm.length ∧ ∀ (j : Nat) x, st.tm[j]? = some x → ∃ y, s.tm[j]? = some y ∧ x.weak y
theorem clrC_is' {own : Own} {ρ : Nat → Option Nat} {fr : Nat → Prop} {w : World} {c : CV} {u : Value} (h : c.clr.is own ρ fr w u) : c.is own ρ fr w u := by cases c <;> exact h
theorem clrs_is' {own : Own} {ρ : Nat → Option Nat} {fr : Nat → Prop} {w : World} : ∀ {l : List CV} {us : List Value}, csIs own ρ fr w (l.map CV.clr) us → csIs own ρ fr w l us
  | [], _, h => h
  | _ :: _, _, ⟨u, us', e, h1, h2⟩ => ⟨u, us', e, clrC_is' h1, clrs_is' h2⟩
theorem clrp_is' {own : Own} {ρ : Nat → Option Nat} {fr : Nat → Prop} {w : World} : ∀ {l : List (Bool × List CV)} {us : List Value}, partsIs own ρ fr w (l.map fun q => (q.1, q.2.map CV.clr)) us → partsIs own ρ fr w l us
  | [], _, h => h
  | _ :: _, _, ⟨u, us', e, ⟨vs, h1, h1'⟩, h2⟩ => ⟨u, us', e, ⟨vs, clrs_is' h1, h1'⟩, clrp_is' h2⟩
theorem AV.is_clr' {own : Own} {ρ : Nat → Option Nat} {fr : Nat → Prop} {w : World} {x : AV} {u : Value} (h : x.clr.is own ρ fr w u) : x.is own ρ fr w u := by
  cases x with
  | one c => exact clrC_is' h
  | ag l => obtain ⟨us, e, hu⟩ := h; exact ⟨us, e, clrs_is' hu⟩
  | tup l => obtain ⟨us, e, hu⟩ := h; exact ⟨us, e, clrp_is' hu⟩
theorem rep_weak {w0 : World} {fr0 : Nat → Prop} {ρ : Nat → Option Nat} {fr : Nat → Prop} {st s : Stt} {a : Act} {w : World} (h : Weak st s) (r : RepS w0 fr0 ρ fr s a w) : RepS w0 fr0 ρ fr st a w := by
  obtain ⟨h1, h3, h4⟩ := h
  have hr : RepS w0 fr0 ρ fr ⟨s.tm, st.own, st.nx⟩ a w := by rw [h1]; exact r
  refine { hr with len := ?_, tmp := ?_, okT := ?_ }
  · rw [hr.len]; exact h3.symm
  · intro t x hx
    obtain ⟨y, hy, hxy⟩ := h4 t x hx
    obtain ⟨u, hu, hyu⟩ := hr.tmp t y hy
    rcases hxy with e | e
    · subst e; exact ⟨u, hu, trivial⟩
    · exact ⟨u, hu, AV.is_clr' (by rw [e]; exact AV.is_clr hyu)⟩
  · intro x hx
    obtain ⟨j, hj⟩ := List.mem_iff_getElem?.1 hx
    obtain ⟨y, hy, hxy⟩ := h4 j x hj
    rcases hxy with e | e
    · subst e; exact junk_ok
    · rw [← AV.keys_clr x, e, AV.keys_clr]; exact hr.okT y (List.mem_of_getElem? hy)
/-- One more loop is summed up. -/
def addL (f : FuncId) (p : List Nat) (m : Stt → Option (Tr (Ex × Stt))) (L : FuncId → Loops) : FuncId → Loops := fun f' at_ st =>
  match Nat.beq f' f && at_ == p with
  | true => match m st with | some t => some t | none => L f' at_ st
  | false => L f' at_ st
theorem codeAt_7 (c : Code) : codeAt c [7] = none := by cases c <;> rfl
theorem addL_ok {P : Program} {f : FuncId} {p : List Nat} {m : Stt → Option (Tr (Ex × Stt))} {L : FuncId → Loops} (hL : LoopsOK P L) (hp : p ≠ [7])
    (h : ∀ fn body c, P.funcs[f]? = some fn → fn.body = some body → codeAt body p.reverse = some (.loop c) → ∀ st t, m st = some t → ∀ r, t.val = some r → ∀ w0 fr0 ρ fr a w (Q : Exit → Act → World → Prop), RepS w0 fr0 ρ fr st a w → (∀ ρ' fr' a' w', RepS w0 fr0 ρ' fr' r.2 a' w' → Grow st.own ρ fr w r.2.own ρ' fr' w' → Q r.1.toExit a' w') → LoopWp P c Q a w) :
    LoopsOK P (addL f p m L) := by
  refine ⟨?_, fun f' st t ht => ?_⟩
  · intro f' fn body hf hb at_ st t ht r hr c hc
    unfold addL at ht
    split at ht
    · rename_i hb2
      rw [Bool.and_eq_true] at hb2
      have e1 := Nat.eq_of_beq_eq_true hb2.1
      have e2 : at_ = p := by simpa using hb2.2
      subst e1; subst e2
      split at ht
      · rename_i t' ht'
        simp only [Option.some.injEq] at ht; subst ht
        exact h fn body c hf hb hc st _ ht' r hr
      · exact hL.1 f' fn body hf hb at_ st t ht r hr c hc
    · exact hL.1 f' fn body hf hb at_ st t ht r hr c hc
  · unfold addL at ht
    split at ht
    · rename_i hb2
      rw [Bool.and_eq_true] at hb2
      have e2 : [7] = p := by simpa using hb2.2
      exact absurd e2.symm hp
    · exact hL.2 f' st t ht
/-- A function that is given own memory: by a contract. -/
theorem addO_ok {P : Program} {f : FuncId} {m : Stt → Option (Tr (Ex × Stt))} {L : FuncId → Loops} (hL : LoopsOK P L) (h : OpenOK P f m) : LoopsOK P (addL f [7] m L) := by
  refine ⟨?_, fun f' st t ht => ?_⟩
  · intro f' fn body hf hb at_ st t ht r hr c hc
    unfold addL at ht
    split at ht
    · rename_i hb2
      rw [Bool.and_eq_true] at hb2
      have e2 : at_ = [7] := by simpa using hb2.2
      subst e2
      have : codeAt body [7] = some (.loop c) := hc
      rw [codeAt_7] at this
      cases this
    · exact hL.1 f' fn body hf hb at_ st t ht r hr c hc
  · unfold addL at ht
    split at ht
    · rename_i hb2
      rw [Bool.and_eq_true] at hb2
      have e1 := Nat.eq_of_beq_eq_true hb2.1
      subst e1
      split at ht
      · rename_i t' ht'
        simp only [Option.some.injEq] at ht; subst ht
        exact h st _ ht'
      · exact hL.2 f' st t ht
    · exact hL.2 f' st t ht
theorem L0_ok (P : Program) : LoopsOK P L0 := ⟨(fun _ _ _ _ _ _ _ _ h => by cases h), (fun _ _ _ h => by cases h)⟩
theorem S0_ok (P : Program) : SumOK P S0 := fun _ _ _ h => by cases h
/-- One more function is given. -/
def addS (f : FuncId) (g : List AV → Option (Tr AV)) (S : Sums) : Sums := fun f' args =>
  match Nat.beq f' f with
  | true => match g args with | some t => some t | none => S f' args
  | false => S f' args
/-- A function's contract. -/
def FunOK (P : Program) (f : FuncId) (g : List AV → Option (Tr AV)) : Prop := ∀ args t, g args = some t → ∀ r, t.val = some r → args.flatMap AV.keys = [] → ∀ w (fr : Nat → Prop) us, Bas w → (∀ b, fr b → b < w.heap.size) → asIs [] (fun _ => none) fr w args us →
  Calls P f us.toArray w fun e w' => ∃ v fr', e = .returned v ∧ Ext w w' ∧ (∀ b, fr b → fr' b) ∧ (∀ b, fr' b → fr b ∨ w.heap.size ≤ b) ∧ (∀ b, fr' b → b < w'.heap.size) ∧ r.is [] (fun _ => none) fr' w' v ∧ r.keys = []
theorem addS_ok {P : Program} {f : FuncId} {g : List AV → Option (Tr AV)} {S : Sums} (hg : FunOK P f g) (hS : SumOK P S) : SumOK P (addS f g S) := by
  intro f' args t h
  unfold addS at h
  split at h
  · rename_i hf
    have := Nat.eq_of_beq_eq_true hf
    subst this
    split at h
    · rename_i t' ht'
      simp only [Option.some.injEq] at h; subst h
      exact hg args _ ht'
    · exact hS _ args t h
  · exact hS _ args t h
/-- **A contract out of the evaluator's tree.** -/
theorem fun_of_tree {P : Program} {S : Sums} {On : FuncId → Bool} {L : FuncId → Loops} (hm : P.follows .mixedOrders = true) (hS : SumOK P S) (hL : LoopsOK P L) {d : Nat} {f : FuncId} {args : List AV} {r : AV} (hr : (evalF P S On L d f args).val = some r) (hk : args.flatMap AV.keys = []) (w : World) (fr : Nat → Prop) (us : List Value) (hbas : Bas w) (hfr : ∀ b, fr b → b < w.heap.size) (hus : asIs [] (fun _ => none) fr w args us) :
    Calls P f us.toArray w fun e w' => ∃ v fr', e = .returned v ∧ Ext w w' ∧ (∀ b, fr b → fr' b) ∧ (∀ b, fr' b → fr b ∨ w.heap.size ≤ b) ∧ (∀ b, fr' b → b < w'.heap.size) ∧ r.is [] (fun _ => none) fr' w' v ∧ r.keys = [] :=
  (evalB_sound hm hS hL d).1 f args r hr hk w fr us hbas hfr hus
/-- A law: the tree's ways all end in 'true'. -/
theorem law_of_tree {P : Program} {S : Sums} {On : FuncId → Bool} {L : FuncId → Loops} (hm : P.follows .mixedOrders = true) (hS : SumOK P S) (hL : LoopsOK P L) {d : Nat} {f : FuncId} {args : List AV} {t : Tr AV} (ht : evalF P S On L d f args = t) (h : t.all fun r => ∃ kn, r = .one (.v kn (.bool true))) (hk : args.flatMap AV.keys = []) (w : World) (fr : Nat → Prop) (us : List Value) (hfr : ∀ b, fr b → b < w.heap.size) (hus : asIs [] (fun _ => none) fr w args us) (hbas : Bas w := by first | exact trivial | assumption) :
    Calls P f us.toArray w fun e w' => e = .returned (.bool true) ∧ Ext w w' := by
  obtain ⟨r, hr, kn, rfl⟩ := Tr.all_val h
  refine (fun_of_tree hm hS hL (by rw [ht]; exact hr) hk w fr us hbas hfr hus).mono ?_
  rintro e w' ⟨v, fr', rfl, hx, _, _, _, hv, _⟩
  have hv : v = .bool true := hv
  exact ⟨by rw [hv], hx⟩
end Go.Proofs.Ytacgchandefjgaa
