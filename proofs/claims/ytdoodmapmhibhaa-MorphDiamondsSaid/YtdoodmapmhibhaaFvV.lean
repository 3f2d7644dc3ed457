/-
  The evaluator: how it is used: contracts, loops. No program is named here.
-/
import Derived.Test.YtdoodmapmhibhaaFvU
namespace Go.Proofs.Ytdoodmapmhibhaa
open Go
/-- A loop's rounds, as many as there may be. -/
def loopN {σ τ : Type} (step : σ → Tr (σ ⊕ τ)) : Nat → σ → Option τ
  | 0, _ => none
  | n + 1, s => match (step s).val with | some (.inl s') => loopN step n s' | some (.inr t) => some t | none => none
/-- These temporaries are not spoken of any more. -/
def junks : List Nat → List AV → List AV
  | [], tm => tm
  | j :: r, tm => junks r (tm.set j .junk)
section
variable {P : Program} {w0 : World} {fr0 : Nat → Prop} {ρ : Nat → Option Nat} {fr : Nat → Prop} {a : Act} {w : World}
theorem junks_get : ∀ (W : List Nat) (tm : List AV), (junks W tm).length = tm.length ∧ ∀ (j : Nat) x, (junks W tm)[j]? = some x → x = .junk ∨ tm[j]? = some x
  | [], tm => ⟨rfl, fun _ _ h => .inr h⟩
  | i :: r, tm => by
    obtain ⟨h1, h2⟩ := junks_get r (tm.set i .junk)
    refine ⟨by simp only [junks]; rw [h1]; simp, fun j x hj => ?_⟩
    simp only [junks] at hj
    rcases h2 j x hj with h | h
    · exact .inl h
    · by_cases e : i = j
      · subst e
        by_cases hl : i < tm.length
        · rw [List.getElem?_set_self hl] at h; simp at h; exact .inl h.symm
        · rw [List.getElem?_eq_none_iff.2 (by simp; omega)] at h; cases h
      · rw [List.getElem?_set_ne e] at h; exact .inr h
theorem mem_look : ∀ {l : Own} {k : Nat} {ob : OB}, l.look k = some ob → (k, ob) ∈ l
  | [], _, _, h => by cases h
  | (i, o) :: r, k, ob, h => by
    simp only [Own.look] at h
    split at h
    · rename_i hb
      have := Nat.eq_of_beq_eq_true hb
      simp only [Option.some.injEq] at h
      subst this; subst h
      exact List.mem_cons_self
    · exact List.mem_cons_of_mem _ (mem_look h)
end
/-- x says what y says, but for flags. -/
def AV.weak (x y : AV) : Prop := x = .junk ∨ x.clr = y.clr
/-- One more loop is summed up. -/
def addL (f : FuncId) (p : List Nat) (m : Stt → Option (Tr (Ex × Stt))) (L : FuncId → Loops) : FuncId → Loops := fun f' at_ st =>
  match Nat.beq f' f && at_ == p with
  | true => match m st with | some t => some t | none => L f' at_ st
  | false => L f' at_ st
theorem codeAt_7 (c : Code) : codeAt c [7] = none := by cases c <;> rfl
theorem addL_ok {P : Program} {f : FuncId} {p : List Nat} {m : Stt → Option (Tr (Ex × Stt))} {L : FuncId → Loops} (hL : LoopsOK P L) (hp : p ≠ [7])
    (h : ∀ fn body c, P.funcs[f]? = some fn → fn.body = some body → codeAt body p.reverse = some (.loop c) → ∀ st t, m st = some t → ∀ r, t.val = some r → ∀ w0 fr0 ρ fr a w (Q : Exit → Act → World → Prop), RepS w0 fr0 ρ fr st a w → (∀ ρ' fr' a' w', RepS w0 fr0 ρ' fr' r.2 a' w' → Grow st.own ρ fr w r.2.own ρ' fr' w' → Q r.1.toExit a' w') → LoopWp P c Q a w) :
    LoopsOK P (addL f p m L) := by
  refine ⟨?_, fun f' st t ht => ?_⟩
  · intro f' fn body hf hb at_ st t ht r hr c hc
    unfold addL at ht
    split at ht
    · rename_i hb2
      rw [Bool.and_eq_true] at hb2
      have e1 := Nat.eq_of_beq_eq_true hb2.1
      have e2 : at_ = p := by simpa using hb2.2
      subst e1; subst e2
      split at ht
      · rename_i t' ht'
        simp only [Option.some.injEq] at ht; subst ht
        exact h fn body c hf hb hc st _ ht' r hr
      · exact hL.1 f' fn body hf hb at_ st t ht r hr c hc
    · exact hL.1 f' fn body hf hb at_ st t ht r hr c hc
  · unfold addL at ht
    split at ht
    · rename_i hb2
      rw [Bool.and_eq_true] at hb2
      have e2 : [7] = p := by simpa using hb2.2
      exact absurd e2.symm hp
    · exact hL.2 f' st t ht
theorem L0_ok (P : Program) : LoopsOK P L0 := ⟨(fun _ _ _ _ _ _ _ _ h => by cases h), (fun _ _ _ h => by cases h)⟩
theorem S0_ok (P : Program) : SumOK P S0 := fun _ _ _ h => by cases h
/-- One more function is given. -/
def addS (f : FuncId) (g : List AV → Option (Tr AV)) (S : Sums) : Sums := fun f' args =>
  match Nat.beq f' f with
  | true => match g args with | some t => some t | none => S f' args
  | false => S f' args
/-- A function's contract. -/
def FunOK (P : Program) (f : FuncId) (g : List AV → Option (Tr AV)) : Prop := ∀ args t, g args = some t → ∀ r, t.val = some r → args.flatMap AV.keys = [] → ∀ w (fr : Nat → Prop) us, Bas w → (∀ b, fr b → b < w.heap.size) → asIs [] (fun _ => none) fr w args us →
  Calls P f us.toArray w fun e w' => ∃ v fr', e = .returned v ∧ Ext w w' ∧ (∀ b, fr b → fr' b) ∧ (∀ b, fr' b → fr b ∨ w.heap.size ≤ b) ∧ (∀ b, fr' b → b < w'.heap.size) ∧ r.is [] (fun _ => none) fr' w' v ∧ r.keys = []
theorem addS_ok {P : Program} {f : FuncId} {g : List AV → Option (Tr AV)} {S : Sums} (hg : FunOK P f g) (hS : SumOK P S) : SumOK P (addS f g S) := by
  intro f' args t h
  unfold addS at h
  split at h
  · rename_i hf
    have := Nat.eq_of_beq_eq_true hf
    subst this
    split at h
    · rename_i t' ht'
      simp only [Option.some.injEq] at h; subst h
      exact hg args _ ht'
    · exact hS _ args t h
  · exact hS _ args t h
/-- **A contract out of the evaluator's tree.** -/
theorem fun_of_tree {P : Program} {S : Sums} {On : FuncId → Bool} {L : FuncId → Loops} (hm : P.follows .mixedOrders = true) (hS : SumOK P S) (hL : LoopsOK P L) {d : Nat} {f : FuncId} {args : List AV} {r : AV} (hr : (evalF P S On L d f args).val = some r) (hk : args.flatMap AV.keys = []) (w : World) (fr : Nat → Prop) (us : List Value) (hbas : Bas w) (hfr : ∀ b, fr b → b < w.heap.size) (hus : asIs [] (fun _ => none) fr w args us) :
    Calls P f us.toArray w fun e w' => ∃ v fr', e = .returned v ∧ Ext w w' ∧ (∀ b, fr b → fr' b) ∧ (∀ b, fr' b → fr b ∨ w.heap.size ≤ b) ∧ (∀ b, fr' b → b < w'.heap.size) ∧ r.is [] (fun _ => none) fr' w' v ∧ r.keys = [] :=
  (evalB_sound hm hS hL d).1 f args r hr hk w fr us hbas hfr hus
/-- A law: the tree's ways all end in 'true'. -/
theorem law_of_tree {P : Program} {S : Sums} {On : FuncId → Bool} {L : FuncId → Loops} (hm : P.follows .mixedOrders = true) (hS : SumOK P S) (hL : LoopsOK P L) {d : Nat} {f : FuncId} {args : List AV} {t : Tr AV} (ht : evalF P S On L d f args = t) (h : t.all fun r => ∃ kn, r = .one (.v kn (.bool true))) (hk : args.flatMap AV.keys = []) (w : World) (fr : Nat → Prop) (us : List Value) (hfr : ∀ b, fr b → b < w.heap.size) (hus : asIs [] (fun _ => none) fr w args us) (hbas : Bas w := by first | exact trivial | assumption) :
    Calls P f us.toArray w fun e w' => e = .returned (.bool true) ∧ Ext w w' := by
  obtain ⟨r, hr, kn, rfl⟩ := Tr.all_val h
  refine (fun_of_tree hm hS hL (by rw [ht]; exact hr) hk w fr us hbas hfr hus).mono ?_
  rintro e w' ⟨v, fr', rfl, hx, _, _, _, hv, _⟩
  have hv : v = .bool true := hv
  exact ⟨by rw [hv], hx⟩
end Go.Proofs.Ytdoodmapmhibhaa
