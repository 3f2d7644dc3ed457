/-
  The evaluator is right: code and functions. What is asked of the program: that it lets mixed orders be drawn; of what is given of callees (S): that it is so. No program is named here.
-/
import Derived.Test.YthgmacoljkljfaaEvJ
namespace Go.Proofs.Ythgmacoljkljfaa
open Go
def Ex.toExit : Ex → Exit
  | .normal => .normal
  | .ret => .ret
  | .exit id => .exit id
section
variable {P : Program} {call : CallT} {w0 : World}
theorem code_sound (hm : P.follows .mixedOrders = true) (hc : CallOK P call) : ∀ (n : Nat),
    (∀ {c : Code} {st st' : Stt} {dec dec' : Dec} {ex : Ex} {ρ : Nat → Nat} {a : Act} {w : World} {Q : Exit → Act → World → Prop}, (evalC P call n c st dec).val = some (ex, st', dec') → dec.Ok st.tm → RepS w0 ρ st a w →
      (dec'.Ok st'.tm → ∀ ρ' a' w', RepS w0 ρ' st' a' w' → Q ex.toExit a' w') → c.wp P Q a w) ∧
    (∀ {c : Code} {st st' : Stt} {dec dec' : Dec} {ex : Ex} {ρ : Nat → Nat} {a : Act} {w : World} {Q : Exit → Act → World → Prop}, (evalC P call n (.loop c) st dec).val = some (ex, st', dec') → dec.Ok st.tm → RepS w0 ρ st a w →
      (dec'.Ok st'.tm → ∀ ρ' a' w', RepS w0 ρ' st' a' w' → Q ex.toExit a' w') → Code.rounds P c Q n a w)
  | 0 => by refine ⟨?_, ?_⟩ <;> (intro _ _ _ _ _ _ _ _ _ _ h; cases h)
  | n + 1 => by
    obtain ⟨ihA, ihB⟩ := code_sound hm hc n
    have B : ∀ {c : Code} {st st' : Stt} {dec dec' : Dec} {ex : Ex} {ρ : Nat → Nat} {a : Act} {w : World} {Q : Exit → Act → World → Prop}, (evalC P call (n + 1) (.loop c) st dec).val = some (ex, st', dec') → dec.Ok st.tm → RepS w0 ρ st a w →
        (dec'.Ok st'.tm → ∀ ρ' a' w', RepS w0 ρ' st' a' w' → Q ex.toExit a' w') → Code.rounds P c Q (n + 1) a w := by
      intro c st st' dec dec' ex ρ a w Q h hd r hQ
      simp only [evalC] at h
      obtain ⟨⟨e1, s1, d1⟩, h1, h2⟩ := Tr.bind_some h
      rw [rounds_succ]
      refine ihA h1 hd r fun hd1 ρ1 a1 w1 r1 => ?_
      cases e1 with
      | normal => exact ihB h2 hd1 r1 hQ
      | ret =>
        simp only [Tr.val, Option.some.injEq, Prod.mk.injEq] at h2
        obtain ⟨rfl, rfl, rfl⟩ := h2
        exact hQ hd1 ρ1 a1 w1 r1
      | exit id =>
        simp only [Tr.val, Option.some.injEq, Prod.mk.injEq] at h2
        obtain ⟨rfl, rfl, rfl⟩ := h2
        exact hQ hd1 ρ1 a1 w1 r1
    refine ⟨?_, B⟩
    intro c st st' dec dec' ex ρ a w Q h hd r hQ
    cases c with
    | skip =>
      simp only [evalC, Tr.val, Option.some.injEq, Prod.mk.injEq] at h
      obtain ⟨rfl, rfl, rfl⟩ := h
      exact wp_skip (hQ hd ρ a w r)
    | label l =>
      simp only [evalC, Tr.val, Option.some.injEq, Prod.mk.injEq] at h
      obtain ⟨rfl, rfl, rfl⟩ := h
      exact wp_label (hQ hd ρ a w r)
    | ret =>
      simp only [evalC, Tr.val, Option.some.injEq, Prod.mk.injEq] at h
      obtain ⟨rfl, rfl, rfl⟩ := h
      exact wp_ret (hQ hd ρ a w r)
    | exit id =>
      simp only [evalC, Tr.val, Option.some.injEq, Prod.mk.injEq] at h
      obtain ⟨rfl, rfl, rfl⟩ := h
      exact wp_exit (hQ hd ρ a w r)
    | seq x y =>
      simp only [evalC] at h
      obtain ⟨⟨e1, s1, d1⟩, h1, h2⟩ := Tr.bind_some h
      refine wp_seq (ihA h1 hd r fun hd1 ρ1 a1 w1 r1 => ?_)
      cases e1 with
      | normal => exact ihA h2 hd1 r1 hQ
      | ret =>
        simp only [Tr.val, Option.some.injEq, Prod.mk.injEq] at h2
        obtain ⟨rfl, rfl, rfl⟩ := h2
        exact hQ hd1 ρ1 a1 w1 r1
      | exit id =>
        simp only [Tr.val, Option.some.injEq, Prod.mk.injEq] at h2
        obtain ⟨rfl, rfl, rfl⟩ := h2
        exact hQ hd1 ρ1 a1 w1 r1
    | cond x y z =>
      cases x with
      | tmp d =>
        simp only [evalC] at h
        split at h
        · rename_i kn b hb
          obtain ⟨dec1, hd1, h⟩ := test_val hd hb h
          obtain ⟨u, hu, hux⟩ := r.tmp d _ hb
          simp only [AV.is, AV.at] at hux; subst hux
          have hev : a.eval (.tmp d) = .bool b := by simp [Act.eval, hu]
          cases b with
          | true => exact wp_cond_true hev (ihA h hd1 r hQ)
          | false => exact wp_cond_false hev (ihA h hd1 r hQ)
        · cases h
      | const v =>
        cases v with
        | bool b =>
          simp only [evalC] at h
          cases b with
          | true => exact wp_cond_true rfl (ihA h hd r hQ)
          | false => exact wp_cond_false rfl (ihA h hd r hQ)
        | _ => cases h
      | global g => cases h
      | func f => cases h
    | block id b =>
      simp only [evalC] at h
      obtain ⟨⟨e1, s1, d1⟩, h1, h2⟩ := Tr.bind_some h
      refine wp_block (ihA h1 hd r fun hd1 ρ1 a1 w1 r1 => ?_)
      cases e1 with
      | normal =>
        simp only [Tr.val, Option.some.injEq, Prod.mk.injEq] at h2
        obtain ⟨rfl, rfl, rfl⟩ := h2
        exact hQ hd1 ρ1 a1 w1 r1
      | ret =>
        simp only [Tr.val, Option.some.injEq, Prod.mk.injEq] at h2
        obtain ⟨rfl, rfl, rfl⟩ := h2
        exact hQ hd1 ρ1 a1 w1 r1
      | exit id' =>
        simp only at h2
        split at h2
        · rename_i hid
          have hid := of_decide_eq_true hid
          simp only [Tr.val, Option.some.injEq, Prod.mk.injEq] at h2
          obtain ⟨rfl, rfl, rfl⟩ := h2
          simp only [Ex.toExit, Exit.inBlock, hid, if_true]
          exact hQ hd1 ρ1 a1 w1 r1
        · rename_i hid
          have hid := of_decide_eq_false hid
          simp only [Tr.val, Option.some.injEq, Prod.mk.injEq] at h2
          obtain ⟨rfl, rfl, rfl⟩ := h2
          simp only [Ex.toExit, Exit.inBlock, hid, if_false]
          exact hQ hd1 ρ1 a1 w1 r1
    | loop b => exact wp_loop_rounds (n + 1) (B h hd r hQ)
    | region id ops draw =>
      simp only [evalC] at h
      split at h
      · rename_i kf hkf
        obtain ⟨⟨s1, d1⟩, h1, h2⟩ := Tr.bind_some h
        simp only [Tr.val, Option.some.injEq, Prod.mk.injEq] at h2
        obtain ⟨rfl, rfl, rfl⟩ := h2
        obtain ⟨s2, h3, h4, h6⟩ := regionT_val (w0 := w0) hd h1
        have hok : (!draw || drawOk kf ops) = true := by
          unfold modeOf at hkf
          split at hkf
          · rename_i hb
            simp only [Option.some.injEq] at hkf; subst hkf
            exact hb
          · split at hkf
            · rename_i hb
              simp only [Option.some.injEq] at hkf; subst hkf
              have hb' : drawOk ⟨some (guessKeys P call ops st), !allKnown st⟩ ops = true := hb
              rw [hb']; simp
            · cases hkf
        exact region_sound hm hc hok h3 r fun ρ1 a1 w1 r1 => hQ h4 ρ1 a1 w1 (h6 ρ1 a1 w1 r1)
      · cases h
    | rangeFunc f p x y => cases h
    | scope b => cases h
    | goto l => cases h
    | refuse s => cases h
/-- What a result variable holds at the end. -/
def resVal (a : Act) : ResultVar → Sem Value
  | .tmp t => Pure.pure (a.tmps.getD t undef)
  | .cell x t => do loadVar t (← asAddr (a.tmps.getD x undef))
theorem results_eq (fn : Func) (a : Act) : results fn a.tmps = (do let vs ← fn.results.mapM (resVal a); pure (if h : vs.size = 1 then vs[0] else .tuple vs)) := by
  unfold results
  congr 1
theorem resAVs_run {ρ : Nat → Nat} {st : Stt} {a : Act} {w : World} (r : RepS w0 ρ st a w) : ∀ {rs : List ResultVar} {l : List AV}, resAVs P st rs = some l → l.all AV.isV = true →
    (rs.mapM (resVal a)).run P w = .ok (l.map AV.raw) w
  | [], l, h, _ => by simp only [resAVs, Option.some.injEq] at h; subst h; rfl
  | .tmp t :: rs, l, h, hv => by
    simp only [resAVs] at h
    split at h
    · rename_i l' hl'
      simp only [Option.some.injEq] at h; subst h
      simp only [List.all_cons, Bool.and_eq_true] at hv
      have ih := resAVs_run r hl' hv.2
      have hev := AV.isV_is (r.eval (.tmp t)) hv.1
      simp only [Act.eval] at hev
      simp only [List.mapM_cons, resVal, Sem.run_bind, Sem.run_pure, Result.andThen_ok, ih, List.map_cons, hev]
    · cases h
  | .cell t ty :: rs, l, h, hv => by
    simp only [resAVs] at h
    split at h
    · rename_i k off hp
      have hev := r.eval (.tmp t)
      rw [hp] at hev
      simp only [AV.is, AV.at, Act.eval] at hev
      split at h
      · rename_i cells n l' hk ht hl'
        split at h
        · rename_i kn vs hr
          split at h
          · rename_i hlen
            simp only [Option.some.injEq] at h; subst h
            simp only [List.all_cons, Bool.and_eq_true] at hv
            have ih := resAVs_run r hl' hv.2
            have := load_run (P := P) r hk ht hr (by simpa using hlen)
            simp only [List.mapM_cons, resVal, Sem.run_bind, hev, asAddr, Sem.run_pure, Result.andThen_ok, this, ih, List.map_cons, AV.raw]
          · cases h
        · cases h
      · rename_i cells n l' hk ht hl'
        split at h
        · rename_i x hx
          simp only [Option.some.injEq] at h; subst h
          simp only [List.all_cons, Bool.and_eq_true] at hv
          have ih := resAVs_run r hl' hv.2
          obtain ⟨u, hu, hxu⟩ := load_run1 (P := P) r hk ht hx
          have := AV.isV_is hxu hv.1
          subst this
          simp only [List.mapM_cons, resVal, Sem.run_bind, hev, asAddr, Sem.run_pure, Result.andThen_ok, hu, ih, List.map_cons]
        · cases h
      · cases h
    · cases h
theorem answer_run {ρ : Nat → Nat} {st : Stt} {a : Act} {w : World} (r : RepS w0 ρ st a w) {fn : Func} {z : Bool × Value} (h : (answer P fn st).val = some z) : (results fn a.tmps).run P w = .ok z.2 w := by
  unfold answer at h
  split at h
  · rename_i ts hts
    have key : ∀ kn l, rawAll ts = some (kn, l) → ((fn.results.mapM (resVal a)).run P w = .ok l.toArray w) := by
      intro kn l hl
      obtain ⟨e1, e2⟩ := rawAll_spec hl
      have := resAVs_run (P := P) r hts e2
      rw [Array.mapM_eq_mapM_toList, Sem.run_map, this, e1]; rfl
    split at h
    · rename_i kn x hx
      simp only [Tr.val, Option.some.injEq] at h; subst h
      have := key kn [x] hx
      rw [results_eq]
      simp only [Sem.run_bind, this, Result.andThen_ok, Sem.run_pure]
      simp
    · rename_i kn l hne hx
      simp only [Tr.val, Option.some.injEq] at h; subst h
      have := key kn l hx
      rw [results_eq]
      simp only [Sem.run_bind, this, Result.andThen_ok, Sem.run_pure]
      have hl : ¬ (l.toArray.size = 1) := fun e => by
        simp only [List.size_toArray] at e
        obtain ⟨x, rfl⟩ := List.length_eq_one_iff.1 e
        exact hne _ rfl
      rw [dif_neg hl]
    · cases h
  · cases h
end
/-- What is given of callees is so. -/
def SumOK (P : Program) (S : Sums) : Prop := ∀ f args t, S f args = some t → ∀ r, t.val = some r → ∀ w, Calls P f (args.map (·.2)).toArray w fun e w' => e = .returned r.2 ∧ Ext w w'
theorem evalF_sound {P : Program} {S : Sums} (hm : P.follows .mixedOrders = true) (hS : SumOK P S) : ∀ d, CallOK P (evalF P S d)
  | 0 => fun f args r h => by cases h
  | d + 1 => by
    intro f args r h w
    simp only [evalF] at h
    split at h
    · rename_i t ht
      exact hS f args t ht r h w
    · split at h
      · rename_i fn hfn
        split at h
        · rename_i body hb
          obtain ⟨kn, h⟩ := mergeF_val h
          obtain ⟨⟨ex, st', dec'⟩, h1, h2⟩ := Tr.bind_some h
          refine calls_of_wp hfn hb ((code_sound (w0 := w) hm (evalF_sound hm hS d) 100000).1 (ρ := fun _ => 0) h1 (fun d b hl => by simp [Dec.look] at hl) ?_ ?_)
          · refine { len := ?_, tmp := ?_, df := rfl, ext := Ext.refl w, cell := fun k cs hk => (by cases hk), fz := fun k cs hk => (by cases hk), lo := fun k cs hk => (by cases hk), inj := fun k k' cs cs' hk => (by cases hk), okT := ?_, okC := fun k cs hk => (by cases hk) }
            · simp
            · intro t x hx
              simp only at hx ⊢
              rw [List.getElem?_append] at hx
              rw [Array.getElem?_append]
              simp only [List.length_map, List.size_toArray] at hx ⊢
              split at hx
              · rename_i hlt
                rw [if_pos hlt]
                simp only [List.getElem?_map, Option.map_eq_some_iff] at hx
                obtain ⟨q, hq, rfl⟩ := hx
                exact ⟨q.2, by simp [hq], by simp [AV.is, AV.at]⟩
              · rename_i hlt
                rw [if_neg hlt]
                rw [List.getElem?_replicate] at hx
                split at hx
                · rename_i hlt2
                  simp only [Option.some.injEq] at hx; subst hx
                  exact ⟨undef, by simp [hlt2], by simp [AV.is, AV.at]⟩
                · cases hx
            · intro x hx
              simp only [List.mem_append, List.mem_map, List.mem_replicate] at hx
              rcases hx with ⟨_, _, rfl⟩ | ⟨_, rfl⟩ <;> exact trivial
          · intro _ ρ' a' w' r'
            cases ex with
            | normal => exact ⟨r'.df, _, answer_run r' h2, rfl, r'.ext⟩
            | ret => exact ⟨r'.df, _, answer_run r' h2, rfl, r'.ext⟩
            | exit id => cases h2
        · cases h
      · cases h
/-- **What is to be used**: if the evaluator's tree ends, on every way, in answers that Q bears, the call answers so, and leaves old memory as it was. -/
theorem calls_of_tree {P : Program} {S : Sums} (hm : P.follows .mixedOrders = true) (hS : SumOK P S) {d : Nat} {f : FuncId} {args : List (Bool × Value)} {t : Tr (Bool × Value)} (ht : evalF P S d f args = t) {v : Value} (h : t.all fun r => r.2 = v) (w : World) :
    Calls P f (args.map (·.2)).toArray w fun e w' => e = .returned v ∧ Ext w w' := by
  obtain ⟨r, hr, rfl⟩ := Tr.all_val h
  exact evalF_sound hm hS d f args r (by rw [ht]; exact hr) w
/-- Nothing is given. -/
def S0 : Sums := fun _ _ => none
theorem S0_ok (P : Program) : SumOK P S0 := fun _ _ _ h => by cases h
/-- One more function is given. -/
def addS (f : FuncId) (g : List (Bool × Value) → Option (Tr (Bool × Value))) (S : Sums) : Sums := fun f' args =>
  match f' == f with
  | true => match g args with | some t => some t | none => S f' args
  | false => S f' args
theorem addS_ok {P : Program} {f : FuncId} {g : List (Bool × Value) → Option (Tr (Bool × Value))} {S : Sums} (hg : ∀ args t, g args = some t → ∀ r, t.val = some r → ∀ w, Calls P f (args.map (·.2)).toArray w fun e w' => e = .returned r.2 ∧ Ext w w') (hS : SumOK P S) : SumOK P (addS f g S) := by
  intro f' args t h
  unfold addS at h
  split at h
  · rename_i hf
    simp only [beq_iff_eq] at hf; subst hf
    split at h
    · rename_i t' ht'
      simp only [Option.some.injEq] at h; subst h
      exact hg args _ ht'
    · exact hS _ args t h
  · exact hS _ args t h
section
variable {β : Type}
def un {α : Type} : List α → (α → List α → Option β) → Option β
  | x :: r, k => k x r
  | [], _ => none
def unI (kd : IntKind) : Value → (Int → Option β) → Option β
  | .int k n, f => match decide (k = kd) with | true => f n | false => none
  | _, _ => none
def unB : Value → (Bool → Option β) → Option β
  | .bool b, f => f b
  | _, _ => none
def unS : Value → (ByteArray → Option β) → Option β
  | .string s, f => f s
  | _, _ => none
def unA : Value → (List Value → Option β) → Option β
  | .agg cs, f => f cs.toList
  | _, _ => none
def unE {α : Type} : List α → Option β → Option β
  | [], k => k
  | _ :: _, _ => none
theorem un_some {α : Type} {l : List α} {k : α → List α → Option β} {r : β} (h : un l k = some r) : ∃ x t, l = x :: t ∧ k x t = some r := by
  cases l with
  | nil => cases h
  | cons x t => exact ⟨x, t, rfl, h⟩
theorem unI_some {kd : IntKind} {v : Value} {k : Int → Option β} {r : β} (h : unI kd v k = some r) : ∃ n, v = .int kd n ∧ k n = some r := by
  unfold unI at h
  split at h
  · split at h
    · rename_i hk
      have hk := of_decide_eq_true hk
      subst hk
      exact ⟨_, rfl, h⟩
    · cases h
  · cases h
theorem unB_some {v : Value} {k : Bool → Option β} {r : β} (h : unB v k = some r) : ∃ n, v = .bool n ∧ k n = some r := by
  unfold unB at h
  split at h
  · exact ⟨_, rfl, h⟩
  · cases h
theorem unS_some {v : Value} {k : ByteArray → Option β} {r : β} (h : unS v k = some r) : ∃ n, v = .string n ∧ k n = some r := by
  unfold unS at h
  split at h
  · exact ⟨_, rfl, h⟩
  · cases h
theorem unA_some {v : Value} {k : List Value → Option β} {r : β} (h : unA v k = some r) : ∃ l, v = .agg l.toArray ∧ k l = some r := by
  unfold unA at h
  split at h
  · rename_i cs
    exact ⟨cs.toList, rfl, h⟩
  · cases h
theorem unE_some {α : Type} {l : List α} {k : Option β} {r : β} (h : unE l k = some r) : l = [] ∧ k = some r := by
  cases l with
  | nil => exact ⟨rfl, h⟩
  | cons x t => cases h
end
end Go.Proofs.Ythgmacoljkljfaa
