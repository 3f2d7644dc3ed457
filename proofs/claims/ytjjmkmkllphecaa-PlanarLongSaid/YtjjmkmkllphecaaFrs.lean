/-
  Calls that hand back a new row of their own, evaluated on no own memory: a contract of a function that is called openly. No program is named here.
-/
import Derived.Test.YtjjmkmkllphecaaFvZ
namespace Go.Proofs.Ytjjmkmkllphecaa
open Go
/-- What such a call hands back, as a list. -/
def rowT (t : Ty) (e : TypeId) (T : Tr (AV × Own)) : Tr AV := T.bind fun x =>
  match x.1 with
  | .one (.v _ (.slice none 0 0)) => .ret (.one (.d false false t []))
  | .one (.s _ k 0 none) =>
    match x.2.look k with
    | some (.row true _ _ e' t' l) => if h : t' = t then (match Nat.beq e' e with | true => .ret (.one (.d false false t (h ▸ l))) | false => .bad 160) else .bad 161
    | _ => .bad 162
  | _ => .bad 163
theorem rowT_some {t : Ty} {e : TypeId} {T : Tr (AV × Own)} {l : List t.den} (h : (rowT t e T).val = some (.one (.d false false t l))) :
    ∃ x, T.val = some x ∧ ((∃ kn, x.1 = .one (.v kn (.slice none 0 0)) ∧ l = []) ∨ ∃ kn k kl kn', x.1 = .one (.s kn k 0 none) ∧ x.2.look k = some (.row true kl kn' e t l)) := by
  obtain ⟨x, h1, h2⟩ := Tr.bind_some h
  refine ⟨x, h1, ?_⟩
  split at h2
  · rename_i kn hx
    have := ret_some h2
    injection this with this
    injection this with _ _ _ this
    exact .inl ⟨kn, hx, this.symm⟩
  · rename_i kn k hx
    split at h2
    · rename_i kl kn' e' t' l' hl
      split at h2
      · rename_i hT
        subst hT
        split at h2
        · rename_i he
          have he := Nat.eq_of_beq_eq_true he
          subst he
          have := ret_some h2
          injection this with this
          injection this with _ _ _ this
          exact .inr ⟨kn, k, kl, kn', hx, by rw [hl, ← this]⟩
        · cases h2
      · cases h2
    · cases h2
  · cases h2
/-- What is known of such a call. -/
def rowM (kf : Bool) (t : Ty) (e : TypeId) (g : List AV → Option (Tr (List t.den))) (st : Stt) : Option (Tr (Ex × Stt)) :=
  match g st.tm, st.tm.flatMap AV.keys, has st.own st.nx with
  | some T, [], false => some (T.bind fun l => .ret (.ret, ⟨[.one (.s kf st.nx 0 none)], st.own.set st.nx (.row true kf false e t l), st.nx⟩))
  | _, _, _ => none
theorem asIs_none {own : Own} {ρ : Nat → Option Nat} {fr : Nat → Prop} {w : World} {ρ' : Nat → Option Nat} {own' : Own} : ∀ {xs : List AV} {us : List Value}, xs.flatMap AV.keys = [] → asIs own ρ fr w xs us → asIs own' ρ' fr w xs us
  | [], _, _, h => h
  | x :: xs, _, hk, ⟨u, us', e, h1, h2⟩ => by
    rw [List.flatMap_cons, List.append_eq_nil_iff] at hk
    exact ⟨u, us', e, AV.nokey_is hk.1 h1, asIs_none hk.2 h2⟩
theorem newRow_ok {kf : Bool} {P : Program} {icall : ICallT} (hic : IcOK P icall) {f : FuncId} {t : Ty} {e : TypeId} {g : List AV → Option (Tr (List t.den))} (n : Nat)
    (h : ∀ args T, g args = some T → ∃ args', args'.flatMap AV.keys = [] ∧ (∀ fr w us, asIs [] (fun _ => none) fr w args us → asIs [] (fun _ => none) fr w args' us) ∧ ∀ l, T.val = some l → (rowT t e (icall f args' [] n)).val = some (.one (.d false false t l))) :
    OpenOK P f (rowM kf t e g) := by
  intro st t0 ht r hr hk w0 fr0 ρ fr w us m hus
  unfold rowM at ht
  split at ht
  case h_2 => cases ht
  rename_i T hg hkeys hnx
  simp only [Option.some.injEq] at ht
  subst ht
  obtain ⟨l, hl, hr⟩ := Tr.bind_some hr
  have hr := ret_some hr
  subst hr
  obtain ⟨args', hk', hi, hv⟩ := h _ _ hg
  obtain ⟨x, hx, hrow⟩ := rowT_some (hv l hl)
  have hlook : st.own.look st.nx = none := by
    cases hh : st.own.look st.nx with
    | none => rfl
    | some ob => rw [has_look.2 ⟨ob, hh⟩] at hnx; cases hnx
  have m0 : RepM w fr (fun _ => none) fr [] w := { ext := Ext.refl w, frlt := m.frlt, frnew := fun b hb => .inl hb, frold := fun b hb => hb, cells := (fun k cs hk => by cases hk), rows := (fun k _ _ _ _ _ _ hk => by cases hk), inj := (fun k k' _ _ _ hk => by cases hk), okC := (fun k cs hk => by cases hk) }
  have hus0 := hi fr w us (asIs_none (own' := []) (ρ' := fun _ => none) hkeys hus)
  refine (hic f args' [] n x hx (okKeys_nil hk') w fr (fun _ => none) fr w us m0 hus0).mono ?_
  rintro e' w' ⟨v, ρ1, fr1, rfl, r1, g1, hv1⟩
  obtain ⟨r3, g3⟩ := m.grow r1.ext
  obtain ⟨r4, g4⟩ := r3.more g1.frz r1.frlt (fun b hb => (r1.frnew b hb).imp id fun h => Nat.le_trans m.ext.size h)
    (fun k cs b hk hb hf3 => by
      obtain ⟨b', a1, _, a3, a4, _⟩ := m.cells k cs hk
      rw [hb] at a1; cases a1
      rcases r1.frnew b hf3 with h | h
      · exact a4 h
      · omega)
    (fun k kl kn e t l b hk hb hf3 => by
      rcases m.rows k true kl kn e t l hk with ⟨h, _⟩ | ⟨b', C, a1, a2, a3, _, _, _, a7, _⟩
      · rw [hb] at h; cases h
      · rw [hb] at a1; cases a1
        rcases r1.frnew b hf3 with h | h
        · exact a7 rfl h
        · have := a3.lt; omega)
  rcases hrow with ⟨kn, hx1, rfl⟩ | ⟨kn, k, kl, kn', hx1, hlk⟩
  · rw [hx1] at hv1
    have hv1 : v = .slice none 0 0 := hv1
    subst hv1
    obtain ⟨r5, g5⟩ := r4.put (k := st.nx) (ob := .row true kf false e t []) (b := none) (fresh_live hlook) (fun _ _ _ _ _ _ _ _ h => by cases h) (fun _ h => by cases h) (fun _ _ _ _ _ _ h => by cases h; exact .inl ⟨rfl, rfl⟩)
    refine ⟨_, _, fr1, rfl, r5, (g3.trans g4).trans g5, ?_⟩
    show SIs _ _ _ st.nx 0 none _
    unfold SIs
    simp only [Own.look_set, if_true]
    exact ⟨by simp [cutLen], .inl ⟨by simp [rho], ⟨_, rfl⟩, rfl⟩⟩
  · rw [hx1] at hv1
    have hv1 : SIs x.2 ρ1 w' k 0 none v := hv1
    have hrows := r1.rows k true kl kn' e t l hlk
    obtain ⟨r5, g5⟩ := r4.put (k := st.nx) (ob := .row true kf false e t l) (b := ρ1 k) (fresh_live hlook)
      (fun _ k' o' c hne h1 h2 h3 h4 => by
        have hb := (m.below h1 h2 h3).1
        rcases hrows with ⟨h, _⟩ | ⟨b, C, h, hge, _⟩
        · rw [h4] at h; cases h
        · rw [h4] at h; cases h; omega)
      (fun _ h => by cases h)
      (fun _ _ _ _ _ _ h => by
        cases h
        rcases hrows with h | ⟨b, C, h1, h2, h3⟩
        · exact .inl h
        · exact .inr ⟨b, C, h1, Nat.le_trans m.ext.size h2, h3⟩)
    refine ⟨_, _, fr1, rfl, r5, (g3.trans g4).trans g5, ?_⟩
    show SIs _ _ _ st.nx 0 none _
    unfold SIs at hv1 ⊢
    rw [hlk] at hv1
    dsimp only at hv1
    simp only [Own.look_set, if_true]
    have e1 : rho ρ st.nx (ρ1 k) st.nx = ρ1 k := by simp [rho]
    rw [e1]
    simp only [true_or, true_imp_iff, forall_const] at hv1 ⊢
    exact hv1
end Go.Proofs.Ytjjmkmkllphecaa
