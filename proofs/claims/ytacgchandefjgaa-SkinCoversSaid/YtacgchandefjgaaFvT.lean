/-
  The evaluator is right: code. What is asked of the program: that it lets mixed orders be drawn; of loops that are summed up (L): that it is so. No program is named here.
-/
import Derived.Test.YtacgchandefjgaaFvS
namespace Go.Proofs.Ytacgchandefjgaa
open Go
def Ex.toExit : Ex → Exit
  | .normal => .normal
  | .ret => .ret
  | .exit id => .exit id
/-- A loop, at the beginning of a round. -/
def LoopWp (P : Program) (c : Code) (Q : Exit → Act → World → Prop) (a : Act) (w : World) : Prop :=
  ∀ b k cs, ∃ e a' w', Q e a' w' ∧ Arrives P (lone (b.at a (.code c :: .inLoop c :: k)) cs w) b k cs e a' w'
theorem wp_loop_of {P : Program} {c : Code} {Q : Exit → Act → World → Prop} {a : Act} {w : World} (h : LoopWp P c Q a w) : (Code.loop c).wp P Q a w := fun b k cs => by
  obtain ⟨e, a', w', hq, harr⟩ := h b k cs
  exact ⟨e, a', w', hq, .of_steps (.one step_loop) harr⟩
theorem loopWp_round {P : Program} {c : Code} {Q : Exit → Act → World → Prop} {a : Act} {w : World} (h : c.wp P (Exit.then (LoopWp P c Q) Q) a w) : LoopWp P c Q a w := fun b k cs => by
  obtain ⟨e, a₁, w₁, hq, harr⟩ := h b (.inLoop c :: k) cs
  cases e with
  | normal =>
    obtain ⟨e₂, a₂, w₂, hq₂, harr₂⟩ := hq b k cs
    exact ⟨e₂, a₂, w₂, hq₂, .of_steps (Steps.trans harr (.one step_inLoop)) harr₂⟩
  | exit id => exact ⟨_, a₁, w₁, hq, .pass (x := .inLoop c) rfl (fun _ _ => .inl (by simp)) harr⟩
  | goto l => exact ⟨_, a₁, w₁, hq, .pass (x := .inLoop c) rfl (fun _ _ => .inl (by simp)) harr⟩
  | ret => exact ⟨_, a₁, w₁, hq, .pass (x := .inLoop c) rfl (fun _ _ => .inl (by simp)) harr⟩
  | panic ch => exact ⟨_, a₁, w₁, hq, .pass (x := .inLoop c) rfl (fun _ _ => .inl (by simp)) harr⟩
  | outgrown => exact ⟨_, a₁, w₁, hq, .pass (x := .inLoop c) rfl (fun _ _ => .inl (by simp)) harr⟩
/-- A place in the text. -/
def codeAt : Code → List Nat → Option Code
  | c, [] => some c
  | .seq a _, 0 :: p => codeAt a p
  | .seq _ b, 1 :: p => codeAt b p
  | .cond _ a _, 0 :: p => codeAt a p
  | .cond _ _ b, 1 :: p => codeAt b p
  | .block _ b, 0 :: p => codeAt b p
  | .loop b, 0 :: p => codeAt b p
  | _, _ => none
theorem codeAt_append : ∀ (c : Code) (p q : List Nat) (d : Code), codeAt c p = some d → codeAt c (p ++ q) = codeAt d q := by
  intro c p
  induction p generalizing c with
  | nil => intro q d h; simp only [codeAt, Option.some.injEq] at h; subst h; rfl
  | cons i p ih =>
    intro q d h
    cases c <;> first
      | (simp [codeAt] at h; done)
      | (rename_i x; cases i <;> first | (simp [codeAt] at h; done) | (simp only [codeAt, List.cons_append] at h ⊢; exact ih _ q d h))
      | (rename_i x y; cases i with
          | zero => first | (simp [codeAt] at h; done) | (simp only [codeAt, List.cons_append] at h ⊢; exact ih _ q d h)
          | succ i => cases i <;> first | (simp [codeAt] at h; done) | (simp only [List.cons_append] at h ⊢; exact ih _ q d h))
      | (rename_i x y z; cases i with
          | zero => first | (simp [codeAt] at h; done) | (simp only [codeAt, List.cons_append] at h ⊢; exact ih _ q d h)
          | succ i => cases i <;> first | (simp [codeAt] at h; done) | (simp only [codeAt, List.cons_append] at h ⊢; exact ih _ q d h))
      | (rename_i x y z u; simp [codeAt] at h; done)
theorem codeAt_child {body c d : Code} {at_ : List Nat} (h : codeAt body at_.reverse = some c) (i : Nat) (hd : codeAt c [i] = some d) : codeAt body (i :: at_).reverse = some d := by
  rw [List.reverse_cons, codeAt_append body at_.reverse [i] c h]
  exact hd
/-- What is known of loops is so. -/
def LoopOK (P : Program) (body : Code) (L : Loops) : Prop := ∀ at_ st t, L at_ st = some t → ∀ r, t.val = some r → ∀ c, codeAt body at_.reverse = some (.loop c) →
  ∀ w0 fr0 ρ fr a w (Q : Exit → Act → World → Prop), RepS w0 fr0 ρ fr st a w → (∀ ρ' fr' a' w', RepS w0 fr0 ρ' fr' r.2 a' w' → Grow st.own ρ fr w r.2.own ρ' fr' w' → Q r.1.toExit a' w') → LoopWp P c Q a w
section
variable {P : Program} {call : CallT} {icall : ICallT} {On : FuncId → Bool} {w0 : World} {fr0 : Nat → Prop}
theorem code_sound (hm : P.follows .mixedOrders = true) (hc : CallOK P call) (hic : IcOK P icall) {body : Code} {L : Loops} (hL : LoopOK P body L) : ∀ (n : Nat),
    (∀ {at_ : List Nat} {c : Code} {st st' : Stt} {dec dec' : Dec} {ex : Ex} {ρ : Nat → Option Nat} {fr : Nat → Prop} {a : Act} {w : World} {Q : Exit → Act → World → Prop}, codeAt body at_.reverse = some c → (evalC P call icall On L n at_ c st dec).val = some (ex, st', dec') → dec.Ok st.tm → RepS w0 fr0 ρ fr st a w →
      (dec'.Ok st'.tm → To w0 fr0 ρ fr w st st' (Q ex.toExit)) → c.wp P Q a w) ∧
    (∀ {at_ : List Nat} {c : Code} {st st' : Stt} {dec dec' : Dec} {ex : Ex} {ρ : Nat → Option Nat} {fr : Nat → Prop} {a : Act} {w : World} {Q : Exit → Act → World → Prop}, codeAt body at_.reverse = some (.loop c) → (evalC P call icall On L n at_ (.loop c) st dec).val = some (ex, st', dec') → dec.Ok st.tm → RepS w0 fr0 ρ fr st a w →
      (dec'.Ok st'.tm → To w0 fr0 ρ fr w st st' (Q ex.toExit)) → LoopWp P c Q a w)
  | 0 => by refine ⟨?_, ?_⟩ <;> (intro _ _ _ _ _ _ _ _ _ _ _ _ _ h; cases h)
  | n + 1 => by
    obtain ⟨ihA, ihB⟩ := code_sound hm hc hic hL n
    have nodec : ∀ tm, Dec.Ok [] tm := fun tm d b hl => by simp [Dec.look] at hl
    have B : ∀ {at_ : List Nat} {c : Code} {st st' : Stt} {dec dec' : Dec} {ex : Ex} {ρ : Nat → Option Nat} {fr : Nat → Prop} {a : Act} {w : World} {Q : Exit → Act → World → Prop}, codeAt body at_.reverse = some (.loop c) → (evalC P call icall On L (n + 1) at_ (.loop c) st dec).val = some (ex, st', dec') → dec.Ok st.tm → RepS w0 fr0 ρ fr st a w →
        (dec'.Ok st'.tm → To w0 fr0 ρ fr w st st' (Q ex.toExit)) → LoopWp P c Q a w := by
      intro at_ c st st' dec dec' ex ρ fr a w Q hat h hd r hQ
      simp only [evalC] at h
      split at h
      · rename_i t ht
        obtain ⟨⟨e1, s1⟩, h1, h2⟩ := Tr.bind_some h
        have := ret_some h2
        simp only [Prod.mk.injEq] at this
        obtain ⟨rfl, rfl, rfl⟩ := this
        exact hL at_ st t ht _ h1 c hat w0 fr0 ρ fr a w Q r (hQ (nodec _))
      · obtain ⟨⟨e1, s1, d1⟩, h1, h2⟩ := Tr.bind_some h
        refine loopWp_round (ihA (codeAt_child hat 0 (by simp [codeAt])) h1 hd r fun hd1 ρ1 fr1 a1 w1 r1 g1 => ?_)
        cases e1 with
        | normal => exact ihB hat h2 hd1 r1 fun hd2 ρ2 fr2 a2 w2 r2 g2 => hQ hd2 ρ2 fr2 a2 w2 r2 (g1.trans g2)
        | ret =>
          have := ret_some h2
          simp only [Prod.mk.injEq] at this
          obtain ⟨rfl, rfl, rfl⟩ := this
          exact hQ hd1 ρ1 fr1 a1 w1 r1 g1
        | exit id =>
          have := ret_some h2
          simp only [Prod.mk.injEq] at this
          obtain ⟨rfl, rfl, rfl⟩ := this
          exact hQ hd1 ρ1 fr1 a1 w1 r1 g1
    refine ⟨?_, B⟩
    intro at_ c st st' dec dec' ex ρ fr a w Q hat h hd r hQ
    have one : ∀ {e : Ex}, (Tr.ret (e, st, dec)).val = some (ex, st', dec') → Q e.toExit a w := fun h => by
      have := ret_some h
      simp only [Prod.mk.injEq] at this
      obtain ⟨rfl, rfl, rfl⟩ := this
      exact hQ hd ρ fr a w r (Grow.refl _ _ _ _)
    cases c with
    | skip => simp only [evalC] at h; exact wp_skip (one h)
    | label l => simp only [evalC] at h; exact wp_label (one h)
    | ret => simp only [evalC] at h; exact wp_ret (one h)
    | exit id => simp only [evalC] at h; exact wp_exit (one h)
    | seq x y =>
      simp only [evalC] at h
      obtain ⟨⟨e1, s1, d1⟩, h1, h2⟩ := Tr.bind_some h
      refine wp_seq (ihA (codeAt_child hat 0 (by simp [codeAt])) h1 hd r fun hd1 ρ1 fr1 a1 w1 r1 g1 => ?_)
      cases e1 with
      | normal => exact ihA (codeAt_child hat 1 (by simp [codeAt])) h2 hd1 r1 fun hd2 ρ2 fr2 a2 w2 r2 g2 => hQ hd2 ρ2 fr2 a2 w2 r2 (g1.trans g2)
      | ret =>
        have := ret_some h2
        simp only [Prod.mk.injEq] at this
        obtain ⟨rfl, rfl, rfl⟩ := this
        exact hQ hd1 ρ1 fr1 a1 w1 r1 g1
      | exit id =>
        have := ret_some h2
        simp only [Prod.mk.injEq] at this
        obtain ⟨rfl, rfl, rfl⟩ := this
        exact hQ hd1 ρ1 fr1 a1 w1 r1 g1
    | cond x y z =>
      cases x with
      | tmp d =>
        simp only [evalC] at h
        split at h
        · rename_i kn b hb
          obtain ⟨dec1, hd1, h⟩ := test_val hd hb h
          obtain ⟨u, hu, hux⟩ := r.tmp d _ hb
          have hux : u = .bool b := hux
          subst hux
          have hev : a.eval (.tmp d) = .bool b := by simp [Act.eval, hu]
          cases b with
          | true => exact wp_cond_true hev (ihA (codeAt_child hat 0 (by simp [codeAt])) h hd1 r hQ)
          | false => exact wp_cond_false hev (ihA (codeAt_child hat 1 (by simp [codeAt])) h hd1 r hQ)
        · cases h
      | const v =>
        cases v with
        | bool b =>
          simp only [evalC] at h
          cases b with
          | true => exact wp_cond_true rfl (ihA (codeAt_child hat 0 (by simp [codeAt])) h hd r hQ)
          | false => exact wp_cond_false rfl (ihA (codeAt_child hat 1 (by simp [codeAt])) h hd r hQ)
        | _ => cases h
      | global g => cases h
      | func f => cases h
    | block id b =>
      simp only [evalC] at h
      obtain ⟨⟨e1, s1, d1⟩, h1, h2⟩ := Tr.bind_some h
      refine wp_block (ihA (codeAt_child hat 0 (by simp [codeAt])) h1 hd r fun hd1 ρ1 fr1 a1 w1 r1 g1 => ?_)
      cases e1 with
      | normal =>
        have := ret_some h2
        simp only [Prod.mk.injEq] at this
        obtain ⟨rfl, rfl, rfl⟩ := this
        exact hQ hd1 ρ1 fr1 a1 w1 r1 g1
      | ret =>
        have := ret_some h2
        simp only [Prod.mk.injEq] at this
        obtain ⟨rfl, rfl, rfl⟩ := this
        exact hQ hd1 ρ1 fr1 a1 w1 r1 g1
      | exit id' =>
        simp only at h2
        split at h2
        · rename_i hid
          have hid := of_decide_eq_true hid
          have := ret_some h2
          simp only [Prod.mk.injEq] at this
          obtain ⟨rfl, rfl, rfl⟩ := this
          simp only [Ex.toExit, Exit.inBlock, hid, if_true]
          exact hQ hd1 ρ1 fr1 a1 w1 r1 g1
        · rename_i hid
          have hid := of_decide_eq_false hid
          have := ret_some h2
          simp only [Prod.mk.injEq] at this
          obtain ⟨rfl, rfl, rfl⟩ := this
          simp only [Ex.toExit, Exit.inBlock, hid, if_false]
          exact hQ hd1 ρ1 fr1 a1 w1 r1 g1
    | loop b => exact wp_loop_of (B hat h hd r hQ)
    | region id ops draw =>
      simp only [evalC] at h
      split at h
      · rename_i kf hkf
        obtain ⟨⟨s1, d1⟩, h1, h2⟩ := Tr.bind_some h
        have := ret_some h2
        simp only [Prod.mk.injEq] at this
        obtain ⟨rfl, rfl, rfl⟩ := this
        obtain ⟨s2, h3, h4, h6⟩ := regionT_val (w0 := w0) (fr0 := fr0) r.wf hd h1
        have hok : draw = false ∨ (kf.kf ≠ .seq ∧ drawOk kf ops = true) := by
          unfold modeOf at hkf
          cases draw with
          | false => exact .inl rfl
          | true =>
            right
            simp only at hkf
            split at hkf
            · rename_i hb
              simp only [Option.some.injEq] at hkf; subst hkf
              rw [Bool.and_eq_true] at hb
              exact ⟨by simp, hb.1⟩
            · split at hkf
              · rename_i hb
                simp only [Option.some.injEq] at hkf; subst hkf
                exact ⟨by simp, hb⟩
              · split at hkf
                · rename_i hb
                  simp only [Option.some.injEq] at hkf; subst hkf
                  exact ⟨by simp, hb⟩
                · cases hkf
        exact region_sound hm hc hic hok h3 r fun ρ1 fr1 a1 w1 r1 g1 => hQ h4 ρ1 fr1 a1 w1 (h6 ρ1 fr1 a1 w1 r1).1 (g1.trans (h6 ρ1 fr1 a1 w1 r1).2)
      · cases h
    | rangeFunc f p x y => cases h
    | scope b => cases h
    | goto l => cases h
    | refuse s => cases h
end
end Go.Proofs.Ytacgchandefjgaa
