/-
  The evaluator is right: a region's operations, in the text's order. No program is named here.
-/
import Derived.Test.YtacgchandefjgaaFvM
namespace Go.Proofs.Ytacgchandefjgaa
open Go
/-- What is taken of calls that are given own memory. -/
def IcOK (P : Program) (icall : ICallT) : Prop := ∀ f args own nx r, (icall f args own nx).val = some r → okKeys own (args.flatMap AV.keys) → ∀ w0 fr0 ρ fr w us, RepM w0 fr0 ρ fr own w → asIs own ρ fr w args us →
  Calls P f us.toArray w fun e w' => ∃ v ρ' fr', e = .returned v ∧ RepM w0 fr0 ρ' fr' r.2 w' ∧ Grow own ρ fr w r.2 ρ' fr' w' ∧ r.1.is r.2 ρ' fr' w' v
section
variable {P : Program} {call : CallT} {icall : ICallT} {On : FuncId → Bool} {w0 : World} {fr0 : Nat → Prop} {ρ : Nat → Option Nat} {fr : Nat → Prop} {a : Act} {w : World} {Q : Exit → Act → World → Prop} {ops : Array Oper} {kf : Md}
abbrev RepS (w0 : World) (fr0 : Nat → Prop) (ρ : Nat → Option Nat) (fr : Nat → Prop) (st : Stt) (a : Act) (w : World) : Prop := Rep w0 fr0 ρ fr st.tm st.own a w
/-- What is to be done behind a part of the code. -/
def To (w0 : World) (fr0 : Nat → Prop) (ρ : Nat → Option Nat) (fr : Nat → Prop) (w : World) (st st' : Stt) (K : Act → World → Prop) : Prop :=
  ∀ ρ' fr' a' w', RepS w0 fr0 ρ' fr' st' a' w' → Grow st.own ρ fr w st'.own ρ' fr' w' → K a' w'
theorem Rep.putv {st : Stt} (r : RepS w0 fr0 ρ fr st a w) (dst : Option Tmp) : RepS w0 fr0 ρ fr ⟨putL st.tm dst undefA, st.own, st.nx⟩ (a.put dst undef) w :=
  Rep.put r (x := undefA) rfl (okKeys_nil rfl) dst
theorem clrC_is {own : Own} {c : CV} {u : Value} (h : c.is own ρ fr w u) : c.clr.is own ρ fr w u := by
  cases c <;> exact h
theorem clrC_keys (c : CV) : c.clr.keys = c.keys := by cases c <;> rfl
theorem clrs_is {own : Own} : ∀ {l : List CV} {us : List Value}, csIs own ρ fr w l us → csIs own ρ fr w (l.map CV.clr) us
  | [], _, h => h
  | _ :: _, _, ⟨u, us', e, h1, h2⟩ => ⟨u, us', e, clrC_is h1, clrs_is h2⟩
theorem clrp_is {own : Own} : ∀ {l : List (Bool × List CV)} {us : List Value}, partsIs own ρ fr w l us → partsIs own ρ fr w (l.map fun q => (q.1, q.2.map CV.clr)) us
  | [], _, h => h
  | _ :: _, _, ⟨u, us', e, ⟨vs, h1, h1'⟩, h2⟩ => ⟨u, us', e, ⟨vs, clrs_is h1, h1'⟩, clrp_is h2⟩
theorem clr_is {own : Own} {b : Bool} {x : AV} {u : Value} (h : x.is own ρ fr w u) : (clrIf b x).is own ρ fr w u := by
  cases b
  · exact h
  · cases x with
    | one c => exact clrC_is h
    | ag l =>
      obtain ⟨us, e, hu⟩ := h
      exact ⟨us, e, clrs_is hu⟩
    | tup l =>
      obtain ⟨us, e, hu⟩ := h
      exact ⟨us, e, clrp_is hu⟩
theorem clrs_keys (l : List CV) : (l.map CV.clr).flatMap CV.keys = l.flatMap CV.keys := by
  induction l with
  | nil => rfl
  | cons c l ih => rw [List.map_cons, List.flatMap_cons, List.flatMap_cons, clrC_keys, ih]
theorem clr_keys (b : Bool) (x : AV) : (clrIf b x).keys = x.keys := by
  cases b
  · rfl
  · cases x with
    | one c => simp [clrIf, AV.clr, AV.keys, AV.cvs, clrC_keys]
    | ag l => exact clrs_keys l
    | tup l =>
      simp only [clrIf, AV.clr, AV.keys, AV.cvs]
      induction l with
      | nil => rfl
      | cons q r ih =>
        simp only [List.map_cons, List.flatMap_cons, List.flatMap_append] at ih ⊢
        rw [ih, clrs_keys]
theorem lkOf_look {ks : List Nat} {own : Own} {k : Nat} {ob : OB} (h : lkOf ks own k = some ob) : own.look k = some ob := by
  unfold lkOf at h
  split at h
  · exact h
  · cases h
theorem fin1_some {o : Oper} {key : Nat} {ev : Operand → AV} {own : Own} {ks : List Nat} {q : AV × List (Nat × OB)} {r : AV × Own} (h : (fin1 P On o key ev own ks q).val = some r) : wrOk o key own ks q.2 = true ∧ resOk (allowed o ev ks (lkOf ks own) q.2) q.1 q.2 = true ∧ r = (q.1, own.puts q.2) := by
  unfold fin1 at h
  split at h
  · rename_i hb _
    rw [Bool.and_eq_true] at hb
    exact ⟨hb.1, hb.2, (ret_some h).symm⟩
  · cases h
theorem fin1_calm {o : Oper} {key : Nat} {ev : Operand → AV} {own : Own} {ks : List Nat} {q : AV × List (Nat × OB)} {r : AV × Own} (h : (fin1 P On o key ev own ks q).val = some r) : (calm P On o.op && !q.2.isEmpty) = false := by
  unfold fin1 at h
  split at h
  · assumption
  · cases h
theorem wrOk_key {o : Oper} {key : Nat} {own : Own} {ks : List Nat} {ws : List (Nat × OB)} (h : wrOk o key own ks ws = true) (hk : ∃ ob, (key, ob) ∈ ws) : own.look key = none := by
  obtain ⟨ob, hm⟩ := hk
  have := (List.all_eq_true.1 h) _ hm
  simp only [Nat.beq_refl, Bool.and_eq_true, Bool.not_eq_true'] at this
  unfold has at this
  cases hl : own.look key with
  | none => rfl
  | some ob' => rw [hl] at this; simp at this
theorem mem_dedup {k : Nat} : ∀ {l : List Nat}, k ∈ dedup l ↔ k ∈ l
  | [] => by simp [dedup]
  | a :: r => by
    unfold dedup
    cases hc : r.contains a with
    | true =>
      have ha : a ∈ r := by simpa using hc
      simp only [List.mem_cons]
      rw [mem_dedup]
      exact ⟨.inr, fun h => h.elim (fun e => e ▸ ha) id⟩
    | false =>
      simp only [List.mem_cons]
      rw [mem_dedup]
theorem deadT_val {α : Type} : ∀ {t : Tr α}, deadT t = true → t.val = none
  | .ret _, h => by cases h
  | .bad _, _ => rfl
  | .br b t e, h => by
    simp only [deadT, Bool.and_eq_true] at h
    cases b
    · show e.val = none; exact deadT_val h.2
    · show t.val = none; exact deadT_val h.1
theorem noBad_val {α : Type} : ∀ {t : Tr α}, noBad t = true → ∃ r, t.val = some r
  | .ret r, _ => ⟨r, rfl⟩
  | .br b t e, h => by
    simp only [noBad, Bool.and_eq_true] at h
    cases b
    · obtain ⟨r, hr⟩ := noBad_val h.2
      exact ⟨r, hr⟩
    · obtain ⟨r, hr⟩ := noBad_val h.1
      exact ⟨r, hr⟩
  | .bad _, h => by simp [noBad] at h
theorem okT_val {α : Type} : ∀ {t : Tr α}, okT t = true → ∃ r, t.val = some r
  | .ret r, _ => ⟨r, rfl⟩
  | .bad _, h => by cases h
  | .br b t e, h => by
    simp only [okT] at h
    split at h
    · rename_i h1 h2
      subst h
      show ∃ r, t.val = some r
      exact noBad_val h2
    · rename_i h1 h2
      rw [Bool.and_eq_true] at h
      obtain ⟨rfl, h⟩ := h
      show ∃ r, t.val = some r
      exact okT_val h
    · split at h
      · rename_i h1 h2
        simp only [Bool.not_eq_true'] at h
        subst h
        show ∃ r, e.val = some r
        exact noBad_val h2
      · rename_i h1 h2
        simp only [Bool.and_eq_true, Bool.not_eq_true'] at h
        obtain ⟨rfl, h⟩ := h
        show ∃ r, e.val = some r
        exact okT_val h
      · cases b
        · show ∃ r, e.val = some r
          exact okT_val (t := e) h
        · show ∃ r, t.val = some r
          exact okT_val (t := t) h
theorem eqL_eq {α : Type} {f : α → α → Bool} (hf : ∀ a b, f a b = true → a = b) : ∀ {l l' : List α}, eqL f l l' = true → l = l'
  | [], [], _ => rfl
  | [], _ :: _, h => by cases h
  | _ :: _, [], h => by cases h
  | x :: xs, y :: ys, h => by
    simp only [eqL, Bool.and_eq_true] at h
    rw [hf _ _ h.1, eqL_eq hf h.2]
theorem Ty.deq_eq : ∀ (t : Ty) (a b : t.den), t.deq a b = true → a = b
  | .int _, a, b, h => of_decide_eq_true (h : decide ((a : Int) = b) = true)
  | .bool, a, b, h => by
    have : (a == b) = true := h
    simpa using this
  | .str, a, b, h => of_decide_eq_true (h : decide ((a : ByteArray) = b) = true)
  | .prod s t, (a1, a2), (b1, b2), h => by
    have : (s.deq a1 b1 && t.deq a2 b2) = true := h
    rw [Bool.and_eq_true] at this
    rw [Ty.deq_eq s _ _ this.1, Ty.deq_eq t _ _ this.2]
  | .list t, l, l', h => eqL_eq (Ty.deq_eq t) h
theorem sameC_eq {x y : CV} {u : Unit} (h : (sameC x y).val = some u) : x = y := by
  unfold sameC at h
  split at h
  · split at h
    · rename_i hb
      simp only [Bool.and_eq_true, beq_iff_eq, decide_eq_true_eq] at hb
      obtain ⟨rfl, rfl⟩ := hb
      have := of_decide_eq_true (Tr.ite_bad h).1
      subst this; rfl
    · cases h
  · split at h
    · rename_i hb
      simp only [beq_iff_eq] at hb
      subst hb
      have := (Tr.ite_bad h).1
      simp only [beq_iff_eq] at this
      subst this; rfl
    · cases h
  · split at h
    · rename_i hb
      simp only [beq_iff_eq] at hb
      subst hb
      have := of_decide_eq_true (Tr.ite_bad h).1
      subst this; rfl
    · cases h
  · split at h
    · rename_i hb
      simp only [Bool.and_eq_true] at hb
      rw [Nat.eq_of_beq_eq_true hb.1, Nat.eq_of_beq_eq_true hb.2]
    · cases h
  · split at h
    · rename_i hb
      simp only [Bool.and_eq_true, decide_eq_true_eq] at hb
      rw [Nat.eq_of_beq_eq_true hb.1, hb.2]
    · cases h
  · rfl
  · split at h
    · rename_i hb
      simp only [Bool.and_eq_true, beq_iff_eq, decide_eq_true_eq] at hb
      obtain ⟨rfl, hk, hi, rfl⟩ := hb
      rw [Nat.eq_of_beq_eq_true hk, Nat.eq_of_beq_eq_true hi]
    · cases h
  · split at h
    · rename_i ht
      subst ht
      split at h
      · rename_i hb
        simp only [Bool.and_eq_true, beq_iff_eq] at hb
        obtain ⟨rfl, rfl⟩ := hb
        have := eqL_eq (Ty.deq_eq _) (Tr.ite_bad h).1
        simp only at this
        subst this; rfl
      · cases h
    · cases h
  · cases h
theorem sameCs_eq : ∀ {l l' : List CV} {u : Unit}, (sameCs l l').val = some u → l = l'
  | [], [], _, _ => rfl
  | [], _ :: _, _, h => by cases h
  | _ :: _, [], _, h => by cases h
  | x :: xs, y :: ys, _, h => by
    obtain ⟨a, h1, h2⟩ := Tr.bind_some h
    rw [sameC_eq h1, sameCs_eq h2]
theorem sameB_eq {own own' : Own} {k : Nat} {ob : OB} {u : Unit} (h : (sameB own own' k).val = some u) (hk : own.look k = some ob) : own'.look k = some ob := by
  unfold sameB at h
  split at h
  · rename_i h1; rw [hk] at h1; cases h1
  · rename_i l l' h1 h2
    rw [hk] at h1
    rw [h1, h2, sameCs_eq h]
  · rename_i mu kl kn e t l mu' kl' kn' e' t' l' h1 h2
    rw [hk] at h1
    split at h
    · rename_i ht
      subst ht
      split at h
      · rename_i hb
        simp only [Bool.and_eq_true, beq_iff_eq, decide_eq_true_eq] at hb
        obtain ⟨rfl, rfl, rfl, rfl⟩ := hb
        have := eqL_eq (Ty.deq_eq _) (Tr.ite_bad h).1
        simp only at this
        subst this
        rw [h1, h2]
      · cases h
    · cases h
  · cases h
theorem sameBs_mem {own own' : Own} : ∀ {ks : List Nat} {u : Unit}, (sameBs own own' ks).val = some u → ∀ k ∈ ks, ∃ u, (sameB own own' k).val = some u
  | [], _, _, k, hk => by cases hk
  | a :: r, _, h, k, hk => by
    obtain ⟨b, h1, h2⟩ := Tr.bind_some h
    rcases List.mem_cons.1 hk with rfl | hk
    · exact ⟨b, h1⟩
    · exact sameBs_mem h2 k hk
theorem keepT_some {α : Type} {i : Nat} {own own' : Own} {a b : α} (h : (keepT kf i own own' (.ret a)).val = some b) : b = a ∧ ∀ l, kf.kf = .gs true l → ∀ k ∈ othK l i, ∃ u, (sameB own own' k).val = some u := by
  unfold keepT at h
  split at h
  · rename_i l hl
    obtain ⟨h1, h2⟩ := Tr.ite_bad h
    refine ⟨(ret_some h2).symm, fun l' hl' k hk => ?_⟩
    rw [hl] at hl'
    simp only [Kf.gs.injEq, true_and] at hl'
    subst hl'
    obtain ⟨u, hu⟩ := okT_val h1
    exact sameBs_mem hu k (mem_dedup.2 hk)
  · rename_i hn
    refine ⟨(ret_some h).symm, fun l' hl' => absurd hl' (hn l')⟩
theorem openOf_some {o : Oper} {ev : Operand → AV} {q : FuncId × List AV} (h : openOf P On o ev = some q) : ∃ f args ats caps, o.op = .call ⟨.value f, args, ats⟩ ∧ ev f = .one (.fn q.1 caps) ∧ callable P q.1 = true ∧ q.2 = args.toList.map ev ++ caps.map fun q => .one (.p q.1 q.2) := by
  unfold openOf at h
  split at h
  · rename_i cl ho
    obtain ⟨callee, args, ats⟩ := cl
    split at h
    · rename_i f hcal
      simp only at hcal; subst hcal
      split at h
      · rename_i n caps he
        split at h
        · rename_i hb
          rw [Bool.and_eq_true] at hb
          simp only [Option.some.injEq] at h; subst h
          exact ⟨f, args, ats, caps, ho, he, hb.2, rfl⟩
        · cases h
      · cases h
    · cases h
  · cases h
theorem asIs_append {own : Own} : ∀ {xs ys : List AV} {us vs : List Value}, asIs own ρ fr w xs us → asIs own ρ fr w ys vs → asIs own ρ fr w (xs ++ ys) (us ++ vs)
  | [], _, _, _, h, h' => by cases h; exact h'
  | x :: xs, _, _, _, ⟨u, us', e, h1, h2⟩, h' => by subst e; exact ⟨u, us' ++ _, rfl, h1, asIs_append h2 h'⟩
theorem caps_as {own : Own} : ∀ {caps : List (Nat × Nat)} {as : List Value}, capsIs ρ caps as → asIs own ρ fr w (caps.map fun q => AV.one (.p q.1 q.2)) as
  | [], _, h => h
  | _ :: _, _, ⟨b, as', e, hb, h⟩ => ⟨_, as', e, ⟨b, hb, rfl⟩, caps_as h⟩
theorem opds_ok {tm : List AV} {own : Own} (h : ∀ x ∈ tm, okKeys own x.keys) (ys : List Operand) : okKeys own ((ys.map (opd tm)).flatMap AV.keys) := fun k hk => by
  obtain ⟨x, hx, hkx⟩ := List.mem_flatMap.1 hk
  obtain ⟨y, _, rfl⟩ := List.mem_map.1 hx
  exact opd_ok h y k hkx
/-- Pointers lead to blocks that there are. -/
def WF (st : Stt) : Prop := (∀ x ∈ st.tm, okKeys st.own x.keys) ∧ ∀ k cs, st.own.look k = some (.cells cs) → okKeys st.own (cs.flatMap CV.keys)
theorem Own.has_set {own : Own} {k j : Nat} {ob : OB} (h : has own j = true) : has (own.set k ob) j = true := by
  obtain ⟨o, ho⟩ := has_look.1 h
  refine has_look.2 ?_
  rw [Own.look_set]
  by_cases e : j = k
  · exact ⟨ob, by simp [e]⟩
  · exact ⟨o, by simp [e, ho]⟩
theorem Own.has_puts : ∀ {ws : List (Nat × OB)} {own : Own} {j : Nat}, has own j = true ∨ j ∈ ws.map (·.1) → has (own.puts ws) j = true
  | [], _, _, h => by simpa [Own.puts] using h
  | q :: r, own, j, h => by
    simp only [Own.puts]
    refine Own.has_puts ?_
    rcases h with h | h
    · exact .inl (Own.has_set h)
    · rcases List.mem_cons.1 h with rfl | h
      · exact .inl (has_look.2 ⟨q.2, by rw [Own.look_set]; simp⟩)
      · exact .inr h
theorem OB.keys_ok {st : Stt} (hwf : WF st) {k : Nat} {ob : OB} (hk : st.own.look k = some ob) : okKeys st.own ob.keys := by
  cases ob with
  | cells cs => exact hwf.2 k cs hk
  | row _ _ _ _ _ _ => exact okKeys_nil rfl
  | dead => exact okKeys_nil rfl
theorem allowed_has {st : Stt} (hwf : WF st) {o : Oper} {ks : List Nat} {x : AV} {ws : List (Nat × OB)} (h : resOk (allowed o (opd st.tm) ks (lkOf ks st.own) ws) x ws = true) :
    okKeys (st.own.puts ws) x.keys ∧ ∀ q ∈ ws, okKeys (st.own.puts ws) q.2.keys := by
  have key : ∀ k, (allowed o (opd st.tm) ks (lkOf ks st.own) ws).contains k = true → has (st.own.puts ws) k = true := fun k hk => by
    have hk : k ∈ allowed o (opd st.tm) ks (lkOf ks st.own) ws := by simpa using hk
    unfold allowed at hk
    rcases List.mem_append.1 hk with hk | hk
    · rcases List.mem_append.1 hk with hk | hk
      · exact Own.has_puts (.inl (opds_ok hwf.1 _ k hk))
      · obtain ⟨j, _, hj⟩ := List.mem_flatMap.1 hk
        split at hj
        · rename_i ob hob
          exact Own.has_puts (.inl (OB.keys_ok hwf (lkOf_look hob) k hj))
        · cases hj
    · exact Own.has_puts (.inr hk)
  unfold resOk at h
  rw [Bool.and_eq_true] at h
  exact ⟨fun k hk => key k ((List.all_eq_true.1 h.1) k hk), fun q hq k hk => key k ((List.all_eq_true.1 ((List.all_eq_true.1 h.2) q hq)) k hk)⟩
theorem runE_sound (hc : CallOK P call) (hic : IcOK P icall) {i : Nat} {o : Oper} {st : Stt} {x : AV} {own1 : Own} (h : (runE P call icall On kf i o (opd st.tm) st.own st.nx).val = some (x, own1)) (r : RepS w0 fr0 ρ fr st a w) {K : Act → World → Prop}
    (hK : ∀ ρ' fr' u w', RepM w0 fr0 ρ' fr' own1 w' → Grow st.own ρ fr w own1 ρ' fr' w' → x.is own1 ρ' fr' w' u → okKeys own1 x.keys → K (a.put o.dst u) w') : o.wp P a w K Q := by
  unfold runE at h
  split at h
  · rename_i y ho
    have := ret_some h
    simp only [Prod.mk.injEq] at this
    obtain ⟨rfl, rfl⟩ := this
    exact wp_value (u := a.eval y) (by simp [execOp, ho]) (hK ρ fr _ w r.toRepM (Grow.refl _ _ _ _) (r.eval y) (opd_ok r.okT y))
  · rename_i y ho
    have := ret_some h
    simp only [Prod.mk.injEq] at this
    obtain ⟨rfl, rfl⟩ := this
    exact wp_value (u := a.eval y) (by simp [execOp, ho]) (hK ρ fr _ w r.toRepM (Grow.refl _ _ _ _) (r.eval y) (opd_ok r.okT y))
  · rename_i c y z ho
    split at h
    · rename_i kn t ht
      have hcv := r.eval c
      rw [ht] at hcv
      have hcv : a.eval c = .bool t := hcv
      rcases Tr.val_ite_some h with ⟨hb, h'⟩ | ⟨hb, h'⟩ <;> (have := ret_some h'; simp only [Prod.mk.injEq] at this; obtain ⟨rfl, rfl⟩ := this; subst hb)
      · exact wp_value (u := a.eval y) (by simp [execOp, ho, hcv, asBool]) (hK ρ fr _ w r.toRepM (Grow.refl _ _ _ _) (clr_is (r.eval y)) (by rw [clr_keys]; exact opd_ok r.okT y))
      · exact wp_value (u := a.eval z) (by simp [execOp, ho, hcv, asBool]) (hK ρ fr _ w r.toRepM (Grow.refl _ _ _ _) (clr_is (r.eval z)) (by rw [clr_keys]; exact opd_ok r.okT z))
    · cases h
  · split at h
    · rename_i q hq
      obtain ⟨f, args, ats, caps, ho, he, hn, hargs⟩ := openOf_some hq
      split at h
      · obtain ⟨res, hres, h⟩ := Tr.bind_some h
        split at h
        · rename_i hall0
          rw [Bool.and_eq_true] at hall0
          have hall := hall0.1
          have := (keepT_some h).1
          subst this
          have hf := r.eval f
          rw [he] at hf
          obtain ⟨as, hfe, ha⟩ := hf
          unfold Oper.wp
          rw [call_run ho hfe hn]
          have hok : okKeys st.own (q.2.flatMap AV.keys) := by
            rw [hargs, List.flatMap_append]
            intro k hk
            rcases List.mem_append.1 hk with hk | hk
            · exact opds_ok r.okT _ k hk
            · have := opd_ok r.okT f
              rw [he] at this
              apply this k
              simp only [AV.keys, AV.cvs, List.flatMap_cons, List.flatMap_nil, List.append_nil, CV.keys]
              obtain ⟨x, hx, hkx⟩ := List.mem_flatMap.1 hk
              obtain ⟨p, hp, rfl⟩ := List.mem_map.1 hx
              simp [AV.keys, AV.cvs, CV.keys] at hkx
              subst hkx
              exact List.mem_map.2 ⟨p, hp, rfl⟩
          refine (hic q.1 q.2 st.own _ _ hres hok w0 fr0 ρ fr w _ r.toRepM (by rw [hargs]; exact asIs_append (asIs_evals r _) (caps_as ha))).mono ?_
          rintro e w' ⟨v, ρ', fr', rfl, r', g', hv⟩
          show K (a.put o.dst v) w'
          exact hK ρ' fr' _ w' r' g' hv (fun k hk => (List.all_eq_true.1 hall) k hk)
        · cases h
      · cases h
    · split at h
      · obtain ⟨⟨y, ws⟩, h1, h2⟩ := Tr.bind_some h
        obtain ⟨h3, h4, h5⟩ := fin1_some h2
        simp only [Prod.mk.injEq] at h5
        obtain ⟨rfl, rfl⟩ := h5
        exact opF_sound hc r (fun k ob hk => lkOf_look hk) (fun hk => wrOk_key h3 hk) h1 fun ρ' fr' u w' r' g' hx => hK ρ' fr' _ w' r' g' hx (allowed_has ⟨r.okT, fun k cs hk => r.okC k cs hk⟩ h4).1
      · cases h
      · cases h
theorem runT_some {i : Nat} {o : Oper} {st st' : Stt} (h : (runT P call icall On kf i o st).val = some st') : ∃ x own1, (runE P call icall On kf i o (opd st.tm) st.own st.nx).val = some (x, own1) ∧ st' = ⟨putL st.tm o.dst x, own1, st.nx⟩ := by
  obtain ⟨⟨x, own1⟩, h1, h2⟩ := Tr.bind_some h
  exact ⟨x, own1, h1, (ret_some h2).symm⟩
theorem runT_of {i : Nat} {o : Oper} {st : Stt} {x : AV} {own1 : Own} (h : (runE P call icall On kf i o (opd st.tm) st.own st.nx).val = some (x, own1)) : (runT P call icall On kf i o st).val = some ⟨putL st.tm o.dst x, own1, st.nx⟩ := by
  unfold runT
  rw [Tr.val_bind, h]; rfl
theorem runT_sound (hc : CallOK P call) (hic : IcOK P icall) {i : Nat} {o : Oper} {st st' : Stt} (h : (runT P call icall On kf i o st).val = some st') (r : RepS w0 fr0 ρ fr st a w) {K : Act → World → Prop}
    (hK : To w0 fr0 ρ fr w st st' K) : o.wp P a w K Q := by
  obtain ⟨x, own1, h1, rfl⟩ := runT_some h
  exact runE_sound hc hic h1 r fun ρ' fr' u w' r' g' hx hok => hK ρ' fr' _ w' (Rep.put (r.grown r' g') hx hok o.dst) g'
/-- What the guard's test reads. -/
theorem yielded_of {j d : Nat} (hd : (ops[j]?).bind (·.dst) = some d) :
    yielded ops a.tmps j = match a.tmps[d]? with | some (.bool b) => some b | _ => none := by
  unfold yielded; rw [hd]; rfl
theorem stepT_sound (hc : CallOK P call) (hic : IcOK P icall) {i : Nat} {st st' : Stt} (h : (stepT P call icall On kf ops i st).val = some st') (r : RepS w0 fr0 ρ fr st a w) {K : Act → World → Prop}
    (hK : To w0 fr0 ρ fr w st st' K) : wpOp P ops Q i K a w := by
  unfold stepT at h
  unfold wpOp
  split at h
  · rename_i hi
    rw [hi]
    have := ret_some h; subst this
    exact hK ρ fr a w r (Grow.refl _ _ _ _)
  · rename_i o hi
    rw [hi]
    simp only
    split at h
    · rename_i hg
      rw [if_pos (by simp [Region.wanted, hg])]
      exact .inl (runT_sound hc hic h r hK)
    · rename_i j want hg
      have skip : Region.wanted o (yielded ops a.tmps) = false → (Tr.ret (⟨putL st.tm o.dst undefA, st.own, st.nx⟩ : Stt)).val = some st' → if Region.wanted o (yielded ops a.tmps) then o.wp P a w K Q ∨ (o.asks P a w ∧ LetsOut Q) else K (a.put o.dst undef) w := fun hw h => by
        rw [if_neg (by simp [hw])]
        have := ret_some h; subst this
        exact hK ρ fr _ w (Rep.putv r o.dst) (Grow.refl _ _ _ _)
      split at h
      · rename_i hd
        have : yielded ops a.tmps j = none := by unfold yielded; rw [hd]; rfl
        exact skip (by simp [Region.wanted, hg, this]) h
      · rename_i d hd
        have hy := yielded_of (a := a) hd
        split at h
        · rename_i kn b hb
          obtain ⟨u, hu, hux⟩ := r.tmp d _ hb
          have hux : u = .bool b := hux
          subst hux
          rw [hu] at hy
          rcases Tr.val_ite_some h with ⟨hw, h⟩ | ⟨hw, h⟩
          · rw [if_pos (by simp only [Region.wanted, hg, hy]; simpa using hw)]
            exact .inl (runT_sound hc hic h r hK)
          · exact skip (by simp only [Region.wanted, hg, hy]; simpa using hw) h
        · cases h
        · rename_i hnot1 hnot2
          refine skip ?_ h
          have hnone : yielded ops a.tmps j = none := by
            rw [hy]
            cases ht : st.tm[d]? with
            | none =>
              have : a.tmps[d]? = none := by
                rw [List.getElem?_eq_none_iff] at ht
                rw [Array.getElem?_eq_none_iff, r.len]; exact ht
              rw [this]
            | some x =>
              obtain ⟨u, hu, hux⟩ := r.tmp d _ ht
              rw [hu]
              cases u with
              | bool b =>
                exfalso
                cases x with
                | one c =>
                  cases c with
                  | v kn y => have hux : Value.bool b = y := hux; subst hux; exact hnot1 _ _ ht
                  | junk => exact hnot2 ht
                  | p k off => obtain ⟨_, _, e⟩ := hux; cases e
                  | fn f caps => obtain ⟨_, e, _⟩ := hux; cases e
                  | d _ _ _ _ => obtain ⟨_, _, e, _⟩ := hux; simp at e
                  | s _ _ _ _ => obtain ⟨_, _, _, e⟩ := SIs.slice hux; cases e
                  | e _ _ _ _ => obtain ⟨_, _, e, _⟩ := hux; cases e
                  | ap _ _ _ _ _ => obtain ⟨_, _, e⟩ := hux; cases e
                | ag l => obtain ⟨_, e, _⟩ := hux; cases e
                | tup l => obtain ⟨_, e, _⟩ := hux; cases e
              | _ => rfl
          simp [Region.wanted, hg, hnone]
/-- In the text's order. -/
theorem foldT_sound (hc : CallOK P call) (hic : IcOK P icall) : ∀ {is : List Nat} {st st' : Stt} {ρ : Nat → Option Nat} {fr : Nat → Prop} {a : Act} {w : World}, (foldT P call icall On kf ops is st).val = some st' → RepS w0 fr0 ρ fr st a w →
    To w0 fr0 ρ fr w st st' (Q .normal) → wpOps P ops Q is a w
  | [], st, st', ρ, fr, a, w, h, r, hQ => by
    have := ret_some h; subst this
    exact hQ ρ fr a w r (Grow.refl _ _ _ _)
  | i :: is, st, st', ρ, fr, a, w, h, r, hQ => by
    obtain ⟨s1, h1, h2⟩ := Tr.bind_some h
    rw [wpOps_cons]
    exact stepT_sound hc hic h1 r fun ρ' fr' a' w' r' g' => foldT_sound hc hic h2 r' fun ρ'' fr'' a'' w'' r'' g'' => hQ ρ'' fr'' a'' w'' r'' (g'.trans g'')
end
end Go.Proofs.Ytacgchandefjgaa
