/-
  The evaluator is right: what operations that Go may carry out in any order have in common. No program is named here.
-/
import Derived.Test.YthgmacoljkljfaaEvF
namespace Go.Proofs.Ythgmacoljkljfaa
open Go
section
variable {P : Program} {call : CallT} {tm tm' : List AV} {own : Own} {o : Oper} {key : Nat} {x : AV} {own1 : Own}
def upd (wr : Option (Nat × List AV)) (own : Own) : Own :=
  match wr with
  | none => own
  | some q => own.set q.1 q.2
/-- What an operation reads of own memory, and what it writes there. -/
def Eff (P : Program) (call : CallT) (tm : List AV) (o : Oper) (key : Nat) (x : AV) (own : Own) (dep : Option Nat) (wr : Option (Nat × List AV)) : Prop :=
  (∀ own2 : Own, (∀ d, dep = some d → own2 d = own d) → (opT P call key o tm own2).val = some (x, upd wr own2)) ∧
  (∀ d, dep = some d → (isMem o.op = true ∧ (∃ y, addrOf o.op = some y ∧ y ∈ o.op.operands.toList ∧ ∃ off, opd tm y = .p d off) ∧ (own d).isSome = true) ∨ (d = key ∧ own key = none)) ∧
  (∀ q, wr = some q → dep = some q.1 ∧ ((isStore o.op = true ∧ (own q.1).isSome = true) ∨ (q.1 = key ∧ own key = none ∧ isNew o.op = true)))
theorem generic_own (h : (generic P o tm own).val = some (x, own1)) : own1 = own ∧ ∀ own2, (generic P o tm own2).val = some (x, own2) := by
  unfold generic at *
  split at h
  · cases h
  · rename_i hall
    split at h
    · rename_i y hy
      simp only [Tr.val, Option.some.injEq, Prod.mk.injEq] at h
      obtain ⟨rfl, rfl⟩ := h
      exact ⟨rfl, fun own2 => rfl⟩
    · cases h
theorem eff_none (h0 : own1 = own) (h : ∀ own2, (opT P call key o tm own2).val = some (x, own2)) : ∃ dep wr, own1 = upd wr own ∧ Eff P call tm o key x own dep wr :=
  by refine ⟨none, none, h0, fun own2 _ => h own2, ?_, ?_⟩ <;> (intro _ h; cases h)
theorem eff_generic (he : ∀ own2, opT P call key o tm own2 = generic P o tm own2) (h : (opT P call key o tm own).val = some (x, own1)) : ∃ dep wr, own1 = upd wr own ∧ Eff P call tm o key x own dep wr := by
  rw [he] at h
  obtain ⟨h1, h2⟩ := generic_own h
  exact eff_none h1 fun own2 => by rw [he]; exact h2 own2
theorem opT_eff (h : (opT P call key o tm own).val = some (x, own1)) : ∃ dep wr, own1 = upd wr own ∧ Eff P call tm o key x own dep wr := by
  have h' := h
  unfold opT at h
  split at h
  case h_1 y ho =>
    simp only [Tr.val, Option.some.injEq, Prod.mk.injEq] at h
    obtain ⟨rfl, rfl⟩ := h
    exact eff_none rfl fun own2 => by simp only [opT, ho]; rfl
  case h_2 y ho =>
    simp only [Tr.val, Option.some.injEq, Prod.mk.injEq] at h
    obtain ⟨rfl, rfl⟩ := h
    exact eff_none rfl fun own2 => by simp only [opT, ho]; rfl
  case h_3 c y z ho =>
    split at h
    · rename_i kn t ht
      rcases Tr.val_ite_some h with ⟨hb, h⟩ | ⟨hb, h⟩ <;> (simp only [Tr.val, Option.some.injEq, Prod.mk.injEq] at h; obtain ⟨rfl, rfl⟩ := h; subst hb)
      · exact eff_none rfl fun own2 => by simp only [opT, ho, ht, Tr.val_ite]; rfl
      · exact eff_none rfl fun own2 => by simp only [opT, ho, ht, Tr.val_ite]; rfl
    · cases h
  case h_4 elem ho =>
    split at h
    · rename_i z hz
      obtain ⟨hk, rfl, rfl⟩ := newBlock_some h
      refine ⟨some key, some (key, _), rfl, fun own2 h2 => ?_, fun d hd => .inr ⟨by simpa using hd.symm, hk⟩, fun q hq => ?_⟩
      · simp only [opT, ho, hz, newBlock, h2 key rfl, hk]; rfl
      · simp only [Option.some.injEq] at hq; subst hq; exact ⟨rfl, .inr ⟨rfl, hk, by rw [ho]; rfl⟩⟩
    · cases h
  case h_5 elem y ho =>
    split at h
    · rename_i hall
      obtain ⟨hk, rfl, rfl⟩ := newBlock_some h
      refine ⟨some key, some (key, _), rfl, fun own2 h2 => ?_, fun d hd => .inr ⟨by simpa using hd.symm, hk⟩, fun q hq => ?_⟩
      · simp only [opT, ho, hall, newBlock, h2 key rfl, hk]; rfl
      · simp only [Option.some.injEq] at hq; subst hq; exact ⟨rfl, .inr ⟨rfl, hk, by rw [ho]; rfl⟩⟩
    · cases h
  case h_6 t y ho =>
    split at h
    · rename_i k off hp
      split at h
      · rename_i cells n hk ht
        split at h
        · rename_i kn vs hr
          split at h
          · rename_i hl
            simp only [Tr.val, Option.some.injEq, Prod.mk.injEq] at h
            obtain ⟨rfl, rfl⟩ := h
            refine ⟨some k, none, rfl, fun own2 h2 => ?_, fun d hd => .inl ⟨by rw [ho]; rfl, ⟨y, by rw [ho]; rfl, by rw [ho]; simp [Op.operands], off, by simp only [Option.some.injEq] at hd; rw [hp, hd]⟩, by simp only [Option.some.injEq] at hd; rw [← hd, hk]; rfl⟩, fun q hq => by cases hq⟩
            simp only [opT, ho, hp, h2 k rfl, hk, ht, hr, hl]; rfl
          · cases h
        · cases h
      · rename_i cells n hk ht
        split at h
        · rename_i z hz
          simp only [Tr.val, Option.some.injEq, Prod.mk.injEq] at h
          obtain ⟨rfl, rfl⟩ := h
          refine ⟨some k, none, rfl, fun own2 h2 => ?_, fun d hd => .inl ⟨by rw [ho]; rfl, ⟨y, by rw [ho]; rfl, by rw [ho]; simp [Op.operands], off, by simp only [Option.some.injEq] at hd; rw [hp, hd]⟩, by simp only [Option.some.injEq] at hd; rw [← hd, hk]; rfl⟩, fun q hq => by cases hq⟩
          simp only [opT, ho, hp, h2 k rfl, hk, ht, hz]; rfl
        · cases h
      · cases h
    · cases h
  case h_7 t y z ho =>
    split at h
    · rename_i k off hp
      split at h
      · rename_i cells i hk hi
        split at h
        · rename_i hb
          simp only [Tr.val, Option.some.injEq, Prod.mk.injEq] at h
          obtain ⟨rfl, rfl⟩ := h
          refine ⟨some k, some (k, _), rfl, fun own2 h2 => ?_, fun d hd => .inl ⟨by rw [ho]; rfl, ⟨y, by rw [ho]; rfl, by rw [ho]; simp [Op.operands], off, by simp only [Option.some.injEq] at hd; rw [hp, hd]⟩, by simp only [Option.some.injEq] at hd; rw [← hd, hk]; rfl⟩, fun q hq => ?_⟩
          · simp only [opT, ho, hp, h2 k rfl, hk, hi, hb]; rfl
          · simp only [Option.some.injEq] at hq; subst hq; exact ⟨rfl, .inl ⟨by rw [ho]; rfl, by simp only; rw [hk]; rfl⟩⟩
        · cases h
      · cases h
    · cases h
  case h_8 s y f ho =>
    split at h
    · rename_i k off fs hp hs
      split at h
      · rename_i fd hfd
        split at h
        · rename_i m hm
          simp only [Tr.val, Option.some.injEq, Prod.mk.injEq] at h
          obtain ⟨rfl, rfl⟩ := h
          exact eff_none rfl fun own2 => by simp only [opT, ho, hp, hs, hfd, hm]; rfl
        · cases h
      · cases h
    · cases h
  case h_9 t y ix ho =>
    split at h
    · rename_i k off n e kn ik i hp ht hix
      split at h
      · rename_i inf hinf
        have hg : ∀ (m j : Nat) (own own1 : Own) (x : AV), (pickAt kn i (fun j => Tr.ret (AV.p k (off + j * inf.size), own)) j m).val = some (x, own1) → own1 = own ∧ ∀ own2 : Own, (pickAt kn i (fun j => Tr.ret (AV.p k (off + j * inf.size), own2)) j m).val = some (x, own2) := by
          intro m
          induction m with
          | zero => intro _ _ _ _ h; cases h
          | succ m ih =>
            intro j own own1 x h
            simp only [pickAt, Tr.val_ite] at h ⊢
            cases hb : (i == (j : Int)) with
            | true =>
              rw [hb] at h
              simp only [cond_true, Tr.val, Option.some.injEq, Prod.mk.injEq] at h
              exact ⟨h.2.symm, fun own2 => by simp [Tr.val, h.1]⟩
            | false =>
              rw [hb] at h
              exact ih (j + 1) own own1 x h
        obtain ⟨h1, h2⟩ := hg n 0 own own1 x h
        exact eff_none h1 fun own2 => by simp only [opT, ho, hp, ht, hix, hinf]; exact h2 own2
      · cases h
    · cases h
  case h_10 y ho =>
    split at h
    · rename_i k off hp
      simp only [Tr.val, Option.some.injEq, Prod.mk.injEq] at h
      obtain ⟨rfl, rfl⟩ := h
      exact eff_none rfl fun own2 => by simp only [opT, ho, hp]; rfl
    · rename_i f caps hp
      simp only [Tr.val, Option.some.injEq, Prod.mk.injEq] at h
      obtain ⟨rfl, rfl⟩ := h
      exact eff_none rfl fun own2 => by simp only [opT, ho, hp]; rfl
    · rename_i n1 n2
      refine eff_generic (fun own2 => ?_) h'
      simp only [opT, ho]
  case h_11 fn first caps ho =>
    split at h
    · rename_i f l hfirst hl
      simp only [Tr.val, Option.some.injEq, Prod.mk.injEq] at h
      obtain ⟨rfl, rfl⟩ := h
      exact eff_none rfl fun own2 => by simp only [opT, ho, hfirst, hl]; rfl
    · rename_i n1
      refine eff_generic (fun own2 => ?_) h'
      simp only [opT, ho]
  case h_12 cl ho =>
    obtain ⟨callee, args, ats⟩ := cl
    split at h
    · rename_i f hcal
      simp only at hcal; subst hcal
      split at h
      · rename_i kn n first caps ra hf hra
        split at h
        · rename_i hfi hca hn
          obtain ⟨z, hz, h⟩ := Tr.bind_some h
          simp only [Tr.val, Option.some.injEq, Prod.mk.injEq] at h
          obtain ⟨rfl, rfl⟩ := h
          exact eff_none rfl fun own2 => by simp only [opT, ho, hf, hra, hfi, hca, hn, Tr.val_bind, hz]; rfl
        · cases h
      · cases h
    · rename_i b hcal
      simp only at hcal; subst hcal
      exact eff_generic (fun own2 => by simp only [opT, ho]) h'
    · cases h
  case h_13 op t y z yt ho =>
    split at h
    · rename_i k1 k u k2 k' u' h1 h2
      split at h
      · rename_i hk
        rcases Tr.val_ite_some h with ⟨hb, h⟩ | ⟨_, h⟩
        · simp only [Tr.val, Option.some.injEq, Prod.mk.injEq] at h
          obtain ⟨rfl, rfl⟩ := h
          exact eff_none rfl fun own2 => by simp only [opT, ho, h1, h2, hk, Tr.val_ite, hb]; rfl
        · cases h
      · cases h
    · rename_i k1 k u k2 k' u' h1 h2
      split at h
      · rename_i hk
        rcases Tr.val_ite_some h with ⟨hb, h⟩ | ⟨_, h⟩
        · simp only [Tr.val, Option.some.injEq, Prod.mk.injEq] at h
          obtain ⟨rfl, rfl⟩ := h
          exact eff_none rfl fun own2 => by simp only [opT, ho, h1, h2, hk, Tr.val_ite, hb]; rfl
        · cases h
      · cases h
    · rename_i k1 k u k2 k' u' h1 h2
      rcases Tr.val_ite_some h with ⟨hb, h⟩ | ⟨_, h⟩
      · simp only [Tr.val, Option.some.injEq, Prod.mk.injEq] at h
        obtain ⟨rfl, rfl⟩ := h
        exact eff_none rfl fun own2 => by simp only [opT, ho, h1, h2, Tr.val_ite, hb]; rfl
      · cases h
    · rename_i k1 k u k2 k' u' h1 h2
      rcases Tr.val_ite_some h with ⟨hb, h⟩ | ⟨_, h⟩
      · simp only [Tr.val, Option.some.injEq, Prod.mk.injEq] at h
        obtain ⟨rfl, rfl⟩ := h
        exact eff_none rfl fun own2 => by simp only [opT, ho, h1, h2, Tr.val_ite, hb]; rfl
      · cases h
    · rename_i k1 xs k2 ys h1 h2
      split at h
      · rename_i b hg hb
        simp only [Tr.val, Option.some.injEq, Prod.mk.injEq] at h
        obtain ⟨rfl, rfl⟩ := h
        exact eff_none rfl fun own2 => by simp only [opT, ho, h1, h2, hg, hb]; rfl
      · cases h
    · rename_i k1 xs k2 ys h1 h2
      split at h
      · rename_i b hg hb
        simp only [Tr.val, Option.some.injEq, Prod.mk.injEq] at h
        obtain ⟨rfl, rfl⟩ := h
        exact eff_none rfl fun own2 => by simp only [opT, ho, h1, h2, hg, hb]; rfl
      · cases h
    · rename_i k1 xs k2 ys h1 h2
      split at h
      · rename_i b hb
        simp only [Tr.val, Option.some.injEq, Prod.mk.injEq] at h
        obtain ⟨rfl, rfl⟩ := h
        exact eff_none rfl fun own2 => by simp only [opT, ho, h1, h2, hb]; rfl
      · cases h
    · rename_i k1 xs k2 ys h1 h2
      split at h
      · rename_i b hb
        simp only [Tr.val, Option.some.injEq, Prod.mk.injEq] at h
        obtain ⟨rfl, rfl⟩ := h
        exact eff_none rfl fun own2 => by simp only [opT, ho, h1, h2, hb]; rfl
      · cases h
    · rename_i n1 n2 n3 n4 n5 n6 n7 n8
      refine eff_generic (fun own2 => ?_) h'
      simp only [opT, ho]
  case h_20 => cases h
  all_goals (rename_i ho; exact eff_generic (fun own2 => by simp only [opT, ho]) h')
end
end Go.Proofs.Ythgmacoljkljfaa
