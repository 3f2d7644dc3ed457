/-
  The evaluator is right: operations that Go may carry out in any order end in the same state. No program is named here.
-/
import Derived.Test.YthgmacoljkljfaaEvG
namespace Go.Proofs.Ythgmacoljkljfaa
open Go
section
variable {P : Program} {call : CallT} {ops : Array Oper} {kf : Md}
theorem opd_put {tm : List AV} {dst : Option Tmp} {x : AV} {y : Operand} (h : ∀ d, dst = some d → y ≠ .tmp d) : opd (putL tm dst x) y = opd tm y := by
  cases dst with
  | none => rfl
  | some d =>
    cases y with
    | tmp t =>
      have hne : d ≠ t := fun e => h d rfl (e ▸ rfl)
      simp [opd, putL, List.getElem?_set_ne hne]
    | _ => rfl
theorem generic_congr {tm tm' : List AV} {own : Own} {o : Oper} (hs : ∀ cs b, o.op ≠ .select cs b) (h : ∀ y ∈ o.op.operands, opd tm y = opd tm' y) : generic P o tm own = generic P o tm' own := by
  have e1 : o.op.operands.toList.map (opd tm) = o.op.operands.toList.map (opd tm') := List.map_congr_left fun y hy => h y (by simpa using hy)
  have e2 : execOp (fun x => (opd tm x).raw) o = execOp (fun x => (opd tm' x).raw) o := execOp_congr o hs fun y hy => by rw [h y hy]
  unfold generic
  rw [e1, e2]
theorem opT_congr {tm tm' : List AV} {own : Own} {o : Oper} {key : Nat} (h : ∀ y ∈ o.op.operands, opd tm y = opd tm' y) : opT P call key o tm own = opT P call key o tm' own := by
  have gc : (∀ cs b, o.op ≠ .select cs b) → generic P o tm own = generic P o tm' own := fun hs => generic_congr hs h
  unfold opT
  split <;> rename_i ho <;> (try (rw [ho] at h gc; simp only [Op.operands] at h))
  case h_1 => rw [h _ (by simp)]
  case h_2 => rw [h _ (by simp)]
  case h_3 => rw [h _ (by simp), h _ (by simp), h _ (by simp)]
  case h_4 => rfl
  case h_5 => rw [h _ (by simp)]
  case h_6 => rw [h _ (by simp)]
  case h_7 => rw [h _ (by simp), h _ (by simp)]
  case h_8 => rw [h _ (by simp)]
  case h_9 => rw [h _ (by simp), h _ (by simp)]
  case h_10 => rw [h _ (by simp), gc (by simp)]
  case h_11 fn first caps =>
    have : caps.toList.map (opd tm) = caps.toList.map (opd tm') := List.map_congr_left fun y hy => h y (by simp; right; simpa using hy)
    rw [this, gc (by simp)]
  case h_12 cl =>
    obtain ⟨callee, args, ats⟩ := cl
    have : args.toList.map (opd tm) = args.toList.map (opd tm') := List.map_congr_left fun y hy => h y (by simp [Call.operands]; right; simpa using hy)
    rw [this, gc (by simp)]
    cases callee with
    | value f => have hf := h f (by simp [Call.operands]); simp only [hf]
    | invoke r m => rfl
    | builtin b => rfl
  case h_13 => rw [h _ (by simp), h _ (by simp), gc (by simp)]
  case h_20 => rfl
  all_goals exact gc (by simp)
/-- The guard's test: none where it can't be told. -/
def gd (ops : Array Oper) (o : Oper) (tm : List AV) : Option Bool :=
  match o.guard with
  | none => some true
  | some (j, want) =>
    match (ops[j]?).bind (·.dst) with
    | none => some false
    | some d =>
      match tm[d]? with
      | some (.v _ (.bool b)) => some (b == want)
      | some .junk => none
      | _ => some false
def skipS (o : Oper) (st : Stt) : Stt := ⟨putL st.tm o.dst (.v true undef), st.own, st.nx⟩
theorem stepT_val {i : Nat} {o : Oper} {st : Stt} (hi : ops[i]? = some o) :
    (stepT P call kf ops i st).val = match gd ops o st.tm with
      | none => none
      | some true => (runT P call kf i o st).val
      | some false => some (skipS o st) := by
  unfold stepT gd
  rw [hi]
  simp only
  cases hg : o.guard with
  | none => rfl
  | some q =>
    obtain ⟨j, want⟩ := q
    simp only
    cases hd : (ops[j]?).bind (·.dst) with
    | none => rfl
    | some d =>
      simp only
      cases ht : st.tm[d]? with
      | none => rfl
      | some x =>
        cases x with
        | v kn y =>
          cases y with
          | bool b => simp only [Tr.val_ite]; cases hb : b == want <;> rfl
          | _ => rfl
        | p => rfl
        | fn => rfl
        | junk => rfl
theorem gd_put {o : Oper} {tm : List AV} {dst : Option Tmp} {x : AV} (h : ∀ d, dst = some d → d ∉ o.looksAt ops) : gd ops o (putL tm dst x) = gd ops o tm := by
  cases dst with
  | none => rfl
  | some d =>
    unfold gd
    cases hg : o.guard with
    | none => rfl
    | some q =>
      obtain ⟨j, want⟩ := q
      simp only
      cases hd : (ops[j]?).bind (·.dst) with
      | none => rfl
      | some t =>
        have hne : d ≠ t := fun e => h d rfl (by subst e; simp [Oper.looksAt, hg, hd])
        simp only [putL, List.getElem?_set_ne hne]
theorem opT_put {o : Oper} {tm : List AV} {own : Own} {key : Nat} {dst : Option Tmp} {x : AV} (h : ∀ d, dst = some d → d ∉ o.looksAt ops) : opT P call key o (putL tm dst x) own = opT P call key o tm own :=
  opT_congr fun y hy => opd_put fun d hd e => h d hd (by
    subst e
    exact List.mem_append_left _ (List.mem_filterMap.2 ⟨.tmp d, by simpa using hy, rfl⟩))
theorem putL_comm {tm : List AV} {d1 d2 : Option Tmp} {x y : AV} (h : ∀ d, d1 = some d → d2 ≠ some d) : putL (putL tm d1 x) d2 y = putL (putL tm d2 y) d1 x := by
  cases d1 with
  | none => rfl
  | some d =>
    cases d2 with
    | none => rfl
    | some e =>
      have hne : d ≠ e := fun he => h d rfl (he ▸ rfl)
      simp only [putL]
      exact List.set_comm _ _ hne
theorem addr_operand {o : Op} {y : Operand} (h : addrOf o = some y) : y ∈ o.operands.toList := by
  cases o <;> simp [addrOf, Op.operands] at h ⊢ <;> simp [h]
theorem keyOk_put {i : Nat} {o : Oper} {tm : List AV} {dst : Option Tmp} {x : AV} (h : ∀ d, dst = some d → d ∉ o.looksAt ops) : keyOk kf i o (putL tm dst x) = keyOk kf i o tm := by
  unfold keyOk
  cases kf.kf with
  | none => rfl
  | some l =>
    cases hy : addrOf o.op with
    | none => rfl
    | some y =>
      have : opd (putL tm dst x) y = opd tm y := opd_put fun d hd e => h d hd (by
        subst e
        exact List.mem_append_left _ (List.mem_filterMap.2 ⟨.tmp d, addr_operand hy, rfl⟩))
      simp only [this]
/-- Pointers lead to blocks that there are. -/
def WF (st : Stt) : Prop := (∀ x ∈ st.tm, x.ok st.own) ∧ ∀ k cs, st.own k = some cs → ∀ x ∈ cs, x.ok st.own
theorem WF.opd {st : Stt} (h : WF st) (y : Operand) : (opd st.tm y).ok st.own := by
  cases y with
  | tmp t =>
    simp only [Go.Proofs.Ythgmacoljkljfaa.opd, List.getD_eq_getElem?_getD]
    cases ht : st.tm[t]? with
    | some z => exact h.1 z (List.mem_of_getElem? ht)
    | none => exact trivial
  | const v => exact trivial
  | global g => exact trivial
  | func f => exact trivial
theorem mem_put {tm : List AV} {dst : Option Tmp} {x y : AV} (h : y ∈ putL tm dst x) : y ∈ tm ∨ y = x := by
  cases dst with
  | none => exact .inl h
  | some d => exact List.mem_or_eq_of_mem_set h
theorem runT_eff {i : Nat} {o : Oper} {st s1 : Stt} (h : (runT P call kf i o st).val = some s1) :
    ∃ x dep wr, s1 = ⟨putL st.tm o.dst (clrIf (kf.fg && tested o) x), upd wr st.own, st.nx⟩ ∧ Eff P call st.tm o (st.nx + i) x st.own dep wr ∧ keyOk kf i o st.tm = true := by
  obtain ⟨hk, x, own1, h1, rfl⟩ := runT_some h
  obtain ⟨dep, wr, rfl, he⟩ := opT_eff h1
  exact ⟨x, dep, wr, rfl, he, hk⟩
theorem runT_of {i : Nat} {o : Oper} {st : Stt} {x : AV} {own1 : Own} (hk : keyOk kf i o st.tm = true) (h : (opT P call (st.nx + i) o st.tm st.own).val = some (x, own1)) : (runT P call kf i o st).val = some ⟨putL st.tm o.dst (clrIf (kf.fg && tested o) x), own1, st.nx⟩ := by
  simp only [runT, hk, Tr.val_bind, h]; rfl
theorem upd_other {wr : Option (Nat × List AV)} {own : Own} {d : Nat} (h : ∀ q, wr = some q → q.1 ≠ d) : upd wr own d = own d := by
  cases wr with
  | none => rfl
  | some q => simp only [upd, Own.set]; rw [if_neg (fun e => h q rfl e.symm)]
theorem upd_comm {w1 w2 : Option (Nat × List AV)} {own : Own} (h : ∀ q r, w1 = some q → w2 = some r → q.1 ≠ r.1) : upd w1 (upd w2 own) = upd w2 (upd w1 own) := by
  cases w1 with
  | none => rfl
  | some q =>
    cases w2 with
    | none => rfl
    | some r =>
      have := h q r rfl rfl
      funext j
      simp only [upd, Own.set]
      split <;> split <;> first | rfl | omega
theorem comm {k i : Nat} (hki : k ≠ i) {st s1 s2 : Stt} (hwf : WF st) (hin : indep kf ops k i = true) (h1 : (stepT P call kf ops k st).val = some s1) (h2 : (stepT P call kf ops i s1).val = some s2) :
    ∃ s1', (stepT P call kf ops i st).val = some s1' ∧ (stepT P call kf ops k s1').val = some s2 := by
  unfold indep at hin
  split at hin
  case h_2 => cases hin
  rename_i a b hk hi
  simp only [Bool.and_eq_true, Bool.or_eq_true, Bool.not_eq_true', Bool.and_eq_false_iff] at hin
  obtain ⟨hap, hm⟩ := hin
  have hdiff : (isStore a.op = false ∨ isMem b.op = false) ∧ (isStore b.op = false ∨ isMem a.op = false) ∨ ∃ l, kf.kf = some l ∧ l.getD k 0 ≠ l.getD i 0 := by
    rcases hm with h | h
    · exact .inl h
    · right
      split at h
      · rename_i l hl; exact ⟨l, hl, by simpa using h⟩
      · cases h
  obtain ⟨a1, a2, a3⟩ := Oper.apart_spec hap
  have e1 : ∀ (tm : List AV) (x : AV), gd ops b (putL tm a.dst x) = gd ops b tm := fun tm x => gd_put a1
  have e2 : ∀ (tm : List AV) (x : AV), gd ops a (putL tm b.dst x) = gd ops a tm := fun tm x => gd_put a3
  have e3 : ∀ (tm : List AV) (x : AV) (own : Own) (key : Nat), opT P call key b (putL tm a.dst x) own = opT P call key b tm own := fun tm x own key => opT_put a1
  have kb : ∀ (tm : List AV) (x : AV), keyOk kf i b (putL tm a.dst x) = keyOk kf i b tm := fun tm x => keyOk_put a1
  have ka : ∀ (tm : List AV) (x : AV), keyOk kf k a (putL tm b.dst x) = keyOk kf k a tm := fun tm x => keyOk_put a3
  have e4 : ∀ (tm : List AV) (x : AV) (own : Own) (key : Nat), opT P call key a (putL tm b.dst x) own = opT P call key a tm own := fun tm x own key => opT_put a3
  rw [stepT_val hk] at h1
  rw [stepT_val hi] at h2
  simp only [stepT_val hi, stepT_val hk]
  cases hga : gd ops a st.tm with
  | none => rw [hga] at h1; cases h1
  | some ga =>
    rw [hga] at h1
    cases ga with
    | false =>
      simp only [Option.some.injEq] at h1; subst h1
      simp only [skipS, e1] at h2
      cases hgb : gd ops b st.tm with
      | none => rw [hgb] at h2; cases h2
      | some gb =>
        rw [hgb] at h2
        cases gb with
        | false =>
          simp only [Option.some.injEq] at h2; subst h2
          exact ⟨_, rfl, by simp only [skipS, e2, hga]; rw [putL_comm a2]⟩
        | true =>
          simp only at h2 ⊢
          obtain ⟨x, dep, wr, rfl, he, hkb⟩ := runT_eff h2
          have hb := he.1 st.own (fun _ _ => rfl)
          simp only [e3] at hb
          refine ⟨_, runT_of (by rw [← kb st.tm (.v true undef)]; exact hkb) hb, ?_⟩
          simp only [e2, hga, skipS]
          rw [putL_comm a2]
    | true =>
      simp only at h1
      obtain ⟨x, dep, wr, rfl, he, hka⟩ := runT_eff h1
      simp only [e1] at h2
      cases hgb : gd ops b st.tm with
      | none => rw [hgb] at h2; cases h2
      | some gb =>
        rw [hgb] at h2
        cases gb with
        | false =>
          simp only [Option.some.injEq] at h2; subst h2
          refine ⟨_, rfl, ?_⟩
          simp only [skipS, e2, hga]
          have ha := he.1 st.own (fun _ _ => rfl)
          rw [← e4 st.tm (.v true undef)] at ha
          rw [runT_of (st := ⟨putL st.tm b.dst (.v true undef), st.own, st.nx⟩) (by simp only [ka]; exact hka) ha]
          rw [putL_comm a2]
        | true =>
          simp only at h2 ⊢
          obtain ⟨y, dep', wr', rfl, he', hkb⟩ := runT_eff h2
          simp only [kb] at hkb
          obtain ⟨f1, f2, f3⟩ := he
          obtain ⟨g1, g2, g3⟩ := he'
          dsimp only at g1 g2 g3
          simp only [e3] at g1
          -- what b reads is not what a writes
          have hopd : ∀ z ∈ b.op.operands.toList, opd (putL st.tm a.dst (clrIf (kf.fg && tested a) x)) z = opd st.tm z := fun z hz => opd_put fun d hd e => a1 d hd (by
            subst e; exact List.mem_append_left _ (List.mem_filterMap.2 ⟨.tmp d, hz, rfl⟩))
          have bmem : ∀ d, dep' = some d → isMem b.op = true → (∃ z, addrOf b.op = some z ∧ z ∈ b.op.operands.toList ∧ ∃ off, opd (putL st.tm a.dst (clrIf (kf.fg && tested a) x)) z = .p d off) → (st.own d).isSome = true := by
            rintro d _ _ ⟨z, _, hz, off, ho⟩
            rw [hopd z hz] at ho
            have := hwf.opd z
            rw [ho] at this
            exact this
          -- where both are memory's: their blocks differ
          have bkey : ∀ l, kf.kf = some l → ∀ d, (∃ z, addrOf b.op = some z ∧ z ∈ b.op.operands.toList ∧ ∃ off, opd (putL st.tm a.dst (clrIf (kf.fg && tested a) x)) z = .p d off) → d = l.getD i 0 := by
            rintro l hl d ⟨z, hz1, hz2, off, ho⟩
            rw [hopd z hz2] at ho
            simp only [keyOk, hl, hz1, ho, beq_iff_eq] at hkb
            exact hkb
          have akey : ∀ l, kf.kf = some l → ∀ d, (∃ z, addrOf a.op = some z ∧ z ∈ a.op.operands.toList ∧ ∃ off, opd st.tm z = .p d off) → d = l.getD k 0 := by
            rintro l hl d ⟨z, hz1, hz2, off, ho⟩
            simp only [keyOk, hl, hz1, ho, beq_iff_eq] at hka
            exact hka
          have storeMem : ∀ o : Oper, isStore o.op = true → isMem o.op = true := fun o h => by
            obtain ⟨_, op, _, _, _, _⟩ := o
            cases op <;> first | rfl | cases h
          have r1 : ∀ d, dep' = some d → ∀ q, wr = some q → q.1 ≠ d := by
            intro d hd q hq
            obtain ⟨hqd, hq'⟩ := f3 q hq
            rcases g2 d hd with ⟨hm, hz, hs⟩ | ⟨rfl, hn⟩
            · rcases hq' with ⟨hst, hqs⟩ | ⟨hk', hn, _⟩
              · rcases hdiff with ⟨h | h, _⟩ | ⟨l, hl, hne⟩
                · rw [h] at hst; cases hst
                · rw [h] at hm; cases hm
                · rcases f2 q.1 hqd with ⟨_, hy, _⟩ | ⟨hkk, hn⟩
                  · rw [akey l hl q.1 hy, bkey l hl d hz]; exact hne
                  · rw [hkk, hn] at hqs; cases hqs
              · intro e
                have := bmem d hd hm hz
                rw [← e, hk', hn] at this
                cases this
            · intro e
              simp only [upd, hq, Own.set, e, if_true] at hn
              cases hn
          have hbown : ∀ d, dep' = some d → st.own d = upd wr st.own d := fun d hd => (upd_other (r1 d hd)).symm
          have hb := g1 st.own hbown
          refine ⟨_, runT_of hkb hb, ?_⟩
          simp only [e2, hga]
          have r2 : ∀ d, dep = some d → ∀ q, wr' = some q → q.1 ≠ d := by
            intro d hd q hq
            obtain ⟨hqd, hq'⟩ := g3 q hq
            have hown : st.own q.1 = upd wr st.own q.1 := hbown q.1 hqd
            rcases f2 d hd with ⟨hm, hy, hs⟩ | ⟨rfl, hn⟩
            · rcases hq' with ⟨hst, hqs⟩ | ⟨hk', hn', _⟩
              · rcases hdiff with ⟨_, h | h⟩ | ⟨l, hl, hne⟩
                · rw [h] at hst; cases hst
                · rw [h] at hm; cases hm
                · rcases g2 q.1 hqd with ⟨_, hz, _⟩ | ⟨hkk, hn'⟩
                  · rw [akey l hl d hy, bkey l hl q.1 hz]; exact fun e => hne e.symm
                  · rw [hkk, hn'] at hqs; cases hqs
              · intro e
                rw [← hk', ← hown, e] at hn'
                rw [hn'] at hs; cases hs
            · rcases hq' with ⟨hst, hs⟩ | ⟨hk', _⟩
              · intro e
                rw [← hown, e, hn] at hs; cases hs
              · intro e
                rw [e] at hk'
                omega
          have ha := f1 (upd wr' st.own) (fun d hd => upd_other (r2 d hd))
          rw [← e4 st.tm (clrIf (kf.fg && tested b) y)] at ha
          rw [runT_of (st := ⟨putL st.tm b.dst (clrIf (kf.fg && tested b) y), upd wr' st.own, st.nx⟩) (by simp only [ka]; exact hka) ha]
          have hu : upd wr (upd wr' st.own) = upd wr' (upd wr st.own) := upd_comm fun q r hq hr => by
            obtain ⟨hrd, _⟩ := g3 r hr
            exact r1 r.1 hrd q hq
          rw [putL_comm a2, hu]
end
end Go.Proofs.Ythgmacoljkljfaa
