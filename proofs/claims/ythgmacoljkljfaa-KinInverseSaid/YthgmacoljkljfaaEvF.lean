/-
  The evaluator is right: regions. No program is named here.
-/
import Derived.Test.YthgmacoljkljfaaEvE
namespace Go.Proofs.Ythgmacoljkljfaa
open Go
section
variable {P : Program} {call : CallT} {w0 : World} {ρ : Nat → Nat} {a : Act} {w : World} {Q : Exit → Act → World → Prop} {ops : Array Oper} {kf : Md}
abbrev RepS (w0 : World) (ρ : Nat → Nat) (st : Stt) (a : Act) (w : World) : Prop := Rep w0 ρ st.tm st.own a w
theorem Rep.putv {st : Stt} (r : RepS w0 ρ st a w) (dst : Option Tmp) : RepS w0 ρ ⟨putL st.tm dst (.v true undef), st.own, st.nx⟩ (a.put dst undef) w :=
  Rep.put r (x := .v true undef) (by simp [AV.is, AV.at]) trivial dst
theorem clr_is {b : Bool} {x : AV} {u : Value} (h : x.is ρ u) : (clrIf b x).is ρ u := by
  cases b
  · exact h
  · cases x <;> exact h
theorem clr_ok {b : Bool} {x : AV} {own : Own} (h : x.ok own) : (clrIf b x).ok own := by
  cases b
  · exact h
  · cases x <;> exact h
theorem runT_some {i : Nat} {o : Oper} {st s1 : Stt} (h : (runT P call kf i o st).val = some s1) : keyOk kf i o st.tm = true ∧ ∃ x own1, (opT P call (st.nx + i) o st.tm st.own).val = some (x, own1) ∧ s1 = ⟨putL st.tm o.dst (clrIf (kf.fg && tested o) x), own1, st.nx⟩ := by
  unfold runT at h
  split at h
  · rename_i hk
    obtain ⟨⟨x, own1⟩, h1, h2⟩ := Tr.bind_some h
    simp only [Tr.val, Option.some.injEq] at h2
    exact ⟨hk, x, own1, h1, h2.symm⟩
  · cases h
theorem runT_sound (hc : CallOK P call) {i : Nat} {o : Oper} {st st' : Stt} (h : (runT P call kf i o st).val = some st') (r : RepS w0 ρ st a w) {K : Act → World → Prop}
    (hK : ∀ ρ' a' w', RepS w0 ρ' st' a' w' → K a' w') : o.wp P a w K Q := by
  obtain ⟨_, x, own', h1, rfl⟩ := runT_some h
  exact opT_sound hc h1 r fun ρ' u w' r' hx hok => hK ρ' _ w' (Rep.put r' (clr_is hx) (clr_ok hok) o.dst)
/-- What the guard's test reads. -/
theorem yielded_of {j d : Nat} (hd : (ops[j]?).bind (·.dst) = some d) :
    yielded ops a.tmps j = match a.tmps[d]? with | some (.bool b) => some b | _ => none := by
  unfold yielded; rw [hd]; rfl
theorem stepT_sound (hc : CallOK P call) {i : Nat} {st st' : Stt} (h : (stepT P call kf ops i st).val = some st') (r : RepS w0 ρ st a w) {K : Act → World → Prop}
    (hK : ∀ ρ' a' w', RepS w0 ρ' st' a' w' → K a' w') : wpOp P ops Q i K a w := by
  unfold stepT at h
  unfold wpOp
  split at h
  · rename_i hi
    rw [hi]
    simp only [Tr.val, Option.some.injEq] at h; subst h
    exact hK ρ a w r
  · rename_i o hi
    rw [hi]
    simp only
    split at h
    · rename_i hg
      rw [if_pos (by simp [Region.wanted, hg])]
      exact .inl (runT_sound hc h r hK)
    · rename_i j want hg
      split at h
      · rename_i hd
        have : yielded ops a.tmps j = none := by unfold yielded; rw [hd]; rfl
        rw [if_neg (by simp [Region.wanted, hg, this])]
        simp only [Tr.val, Option.some.injEq] at h; subst h
        exact hK ρ _ w (Rep.putv r o.dst)
      · rename_i d hd
        have hy := yielded_of (a := a) hd
        split at h
        · rename_i kn b hb
          obtain ⟨u, hu, hux⟩ := r.tmp d _ hb
          simp only [AV.is, AV.at] at hux; subst hux
          rw [hu] at hy
          rcases Tr.val_ite_some h with ⟨hw, h⟩ | ⟨hw, h⟩
          · rw [if_pos (by simp only [Region.wanted, hg, hy]; simpa using hw)]
            exact .inl (runT_sound hc h r hK)
          · rw [if_neg (by simp only [Region.wanted, hg, hy]; simpa using hw)]
            simp only [Tr.val, Option.some.injEq] at h; subst h
            exact hK ρ _ w (Rep.putv r o.dst)
        · cases h
        · rename_i hnot1 hnot2
          have hnone : yielded ops a.tmps j = none ∨ False := by
            left
            rw [hy]
            cases ht : st.tm[d]? with
            | none =>
              have : a.tmps[d]? = none := by
                rw [List.getElem?_eq_none_iff] at ht
                rw [Array.getElem?_eq_none_iff, r.len]; exact ht
              rw [this]
            | some x =>
              obtain ⟨u, hu, hux⟩ := r.tmp d _ ht
              rw [hu]
              cases x with
              | junk => exact absurd ht hnot2
              | v kn y =>
                simp only [AV.is, AV.at] at hux; subst hux
                cases u <;> first | rfl | exact absurd ht (hnot1 _ _)
              | p k off => simp only [AV.is, AV.at] at hux; subst hux; rfl
              | fn f caps => simp only [AV.is, AV.at] at hux; subst hux; rfl
          have hnone := hnone.resolve_right id
          rw [if_neg (by simp [Region.wanted, hg, hnone])]
          simp only [Tr.val, Option.some.injEq] at h; subst h
          exact hK ρ _ w (Rep.putv r o.dst)
/-- In the text's order. -/
theorem foldT_sound (hc : CallOK P call) : ∀ {is : List Nat} {st st' : Stt} {ρ : Nat → Nat} {a : Act} {w : World}, (foldT P call kf ops is st).val = some st' → RepS w0 ρ st a w →
    (∀ ρ' a' w', RepS w0 ρ' st' a' w' → Q .normal a' w') → wpOps P ops Q is a w
  | [], st, st', ρ, a, w, h, r, hQ => by
    simp only [foldT, Tr.val, Option.some.injEq] at h; subst h
    exact hQ ρ a w r
  | i :: is, st, st', ρ, a, w, h, r, hQ => by
    obtain ⟨s1, h1, h2⟩ := Tr.bind_some h
    rw [wpOps_cons]
    exact stepT_sound hc h1 r fun ρ' a' w' r' => foldT_sound hc h2 r' hQ
end
end Go.Proofs.Ythgmacoljkljfaa
