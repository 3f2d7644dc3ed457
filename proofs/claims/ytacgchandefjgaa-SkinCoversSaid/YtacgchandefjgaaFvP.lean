/-
  The evaluator is right: operations that Go may carry out in any order end in the same state. No program is named here.
-/
import Derived.Test.YtacgchandefjgaaFvO
namespace Go.Proofs.Ytacgchandefjgaa
open Go
section
variable {P : Program} {call : CallT} {icall : ICallT} {On : FuncId → Bool} {ops : Array Oper} {kf : Md}
/-- The guard's test: none where it can't be told. -/
def gd (ops : Array Oper) (o : Oper) (tm : List AV) : Option Bool :=
  match o.guard with
  | none => some true
  | some (j, want) =>
    match (ops[j]?).bind (·.dst) with
    | none => some false
    | some d =>
      match tm[d]? with
      | some (.one (.v _ (.bool b))) => some (b == want)
      | some (.one .junk) => none
      | _ => some false
def skipS (o : Oper) (st : Stt) : Stt := ⟨putL st.tm o.dst undefA, st.own, st.nx⟩
theorem stepT_val {i : Nat} {o : Oper} {st : Stt} (hi : ops[i]? = some o) :
    (stepT P call icall On kf ops i st).val = match gd ops o st.tm with
      | none => none
      | some true => (runT P call icall On kf i o st).val
      | some false => some (skipS o st) := by
  unfold stepT gd
  rw [hi]
  simp only
  cases hg : o.guard with
  | none => rfl
  | some q =>
    obtain ⟨j, want⟩ := q
    simp only
    cases hd : (ops[j]?).bind (·.dst) with
    | none => rfl
    | some d =>
      simp only
      cases ht : st.tm[d]? with
      | none => rfl
      | some x =>
        cases x with
        | one c =>
          cases c with
          | v kn y =>
            cases y with
            | bool b => simp only [Tr.val_ite]; cases hb : b == want <;> rfl
            | _ => rfl
          | _ => rfl
        | _ => rfl
theorem gd_put {o : Oper} {tm : List AV} {dst : Option Tmp} {x : AV} (h : ∀ d, dst = some d → d ∉ o.looksAt ops) : gd ops o (putL tm dst x) = gd ops o tm := by
  cases dst with
  | none => rfl
  | some d =>
    unfold gd
    cases hg : o.guard with
    | none => rfl
    | some q =>
      obtain ⟨j, want⟩ := q
      simp only
      cases hd : (ops[j]?).bind (·.dst) with
      | none => rfl
      | some t =>
        have hne : d ≠ t := fun e => h d rfl (by subst e; simp [Oper.looksAt, hg, hd])
        simp only [putL, List.getElem?_set_ne hne]
theorem opds_put {o : Oper} {tm : List AV} {dst : Option Tmp} {x : AV} (h : ∀ d, dst = some d → d ∉ o.looksAt ops) : ∀ y ∈ o.op.operands, opd (putL tm dst x) y = opd tm y := fun y hy => opd_put fun d hd e => h d hd (by
  subst e
  exact List.mem_append_left _ (List.mem_filterMap.2 ⟨.tmp d, by simpa using hy, rfl⟩))
theorem putL_comm {tm : List AV} {d1 d2 : Option Tmp} {x y : AV} (h : ∀ d, d1 = some d → d2 ≠ some d) : putL (putL tm d1 x) d2 y = putL (putL tm d2 y) d1 x := by
  cases d1 with
  | none => rfl
  | some d =>
    cases d2 with
    | none => rfl
    | some e =>
      have hne : d ≠ e := fun he => h d rfl (he ▸ rfl)
      simp only [putL]
      exact List.set_comm _ _ hne
/-- Own memory alike. -/
def Eqv (own own' : Own) : Prop := ∀ k, own.look k = own'.look k
def globs (kf : Md) : Bool := match kf.kf with | .gs _ l => l.any (·.1) | .syn => false | .seq => true
/-- The same state, or (where no call is given own memory) one with the same own memory listed in another order. -/
def Sim (kf : Md) (s s' : Stt) : Prop := s = s' ∨ (globs kf = false ∧ s.tm = s'.tm ∧ s.nx = s'.nx ∧ Eqv s.own s'.own)
theorem Sim.rfl' (kf : Md) (s : Stt) : Sim kf s s := .inl rfl
theorem Sim.trans {a b c : Stt} (h : Sim kf a b) (k : Sim kf b c) : Sim kf a c := by
  rcases h with rfl | ⟨h1, h2, h3, h4⟩
  · exact k
  · rcases k with rfl | ⟨k1, k2, k3, k4⟩
    · exact .inr ⟨h1, h2, h3, h4⟩
    · exact .inr ⟨h1, h2.trans k2, h3.trans k3, fun k => (h4 k).trans (k4 k)⟩
theorem Eqv.puts {own own' : Own} (h : Eqv own own') (ws : List (Nat × OB)) : Eqv (own.puts ws) (own'.puts ws) := fun k => by
  by_cases hk : k ∈ ws.map (·.1)
  · exact look_puts_in hk
  · rw [look_puts_out hk, look_puts_out hk]; exact h k
theorem globOk_globs {i : Nat} (hs : kf.kf ≠ .seq) (h : globOk kf i = true) : globs kf = true := by
  unfold globOk at h
  unfold globs
  cases hk : kf.kf with
  | seq => exact absurd hk hs
  | syn => rw [hk] at h; cases h
  | gs c l =>
    rw [hk] at h
    simp only at h ⊢
    rw [List.any_eq_true]
    cases hl : l[i]? with
    | none => rw [List.getD_eq_getElem?_getD, hl] at h; cases h
    | some q => rw [List.getD_eq_getElem?_getD, hl] at h; exact ⟨q, List.mem_of_getElem? hl, h⟩
theorem runT_sim (hs : kf.kf ≠ .seq) {i : Nat} {o : Oper} {st st2 s1 : Stt} (h : Sim kf st st2) (h1 : (runT P call icall On kf i o st).val = some s1) : ∃ s2, (runT P call icall On kf i o st2).val = some s2 ∧ Sim kf s1 s2 := by
  rcases h with rfl | ⟨g, ht, hn, he⟩
  · exact ⟨s1, h1, .inl rfl⟩
  · obtain ⟨x, own1, h2, rfl⟩ := runT_some h1
    rcases runE_eff h2 with ⟨hg, _⟩ | ⟨ws, rfl, e⟩
    · rw [globOk_globs hs hg] at g; cases g
    · have := e.run st2.own (fun k _ => (he k).symm) (fun hm => by
        obtain ⟨ob, hm⟩ := hm
        rcases e.wr _ (List.mem_map.2 ⟨_, hm, rfl⟩) with ⟨_, hnone, _⟩ | ⟨hne, _⟩
        · rw [← he]; exact hnone
        · exact absurd rfl hne)
      rw [ht, hn] at this
      exact ⟨_, runT_of this, .inr ⟨g, by rw [ht], hn, he.puts ws⟩⟩
theorem keys_has {o : Oper} {st : Stt} (hwf : WF st) : okKeys st.own (keysOf o (opd st.tm)) := by
  unfold keysOf
  split
  · exact opds_ok hwf.1 _
  · exact okKeys_nil rfl
/-- Two local operations whose blocks are apart. -/
theorem comm_local {i k : Nat} (hki : k ≠ i) {a b : Oper} {ev : Operand → AV} {own : Own} {nx : Nat} {x y : AV} {wa wb : List (Nat × OB)} (hka : okKeys own (keysOf a ev)) (hkb : okKeys own (keysOf b ev))
    (ea : Eff P call icall On kf k a ev own nx x wa) (eb : Eff P call icall On kf i b ev (own.puts wa) nx y wb)
    (hd : (wrOp a.op = false ∨ rdOp b.op = false) ∧ (wrOp b.op = false ∨ rdOp a.op = false) ∨ ∀ j ∈ keysOf a ev, j ∉ keysOf b ev) :
    (runE P call icall On kf i b ev own nx).val = some (y, own.puts wb) ∧ (runE P call icall On kf k a ev (own.puts wb) nx).val = some (x, (own.puts wb).puts wa) ∧ (∀ j, j ∈ wa.map (·.1) → j ∉ wb.map (·.1)) := by
  have fresh : ∀ {j}, has own j = true → own.look j = none → False := fun h1 h2 => by
    obtain ⟨ob, h⟩ := has_look.1 h1
    rw [h2] at h; cases h
  have nord : ∀ (o : Oper), rdOp o.op = false → keysOf o ev = [] := fun o h => by unfold keysOf; rw [h]
  -- what a writes is not what b reads
  have r1 : ∀ j ∈ keysOf b ev, j ∉ wa.map (·.1) := fun j hj hm => by
    rcases ea.wr j hm with ⟨_, hn, _⟩ | ⟨_, hw, hja⟩
    · exact fresh (hkb j hj) hn
    · rcases hd with ⟨h | h, _⟩ | h
      · rw [h] at hw; cases hw
      · rw [nord b h] at hj; cases hj
      · exact h j hja hj
  have hb : (runE P call icall On kf i b ev own nx).val = some (y, own.puts wb) := eb.run own (fun j hj => (look_puts_out (r1 j hj)).symm) (fun hm => by
    obtain ⟨ob, hm⟩ := hm
    rcases eb.wr _ (List.mem_map.2 ⟨_, hm, rfl⟩) with ⟨_, hn, _⟩ | ⟨hne, _⟩
    · cases hl : own.look (nx + i) with
      | none => rfl
      | some ob' =>
        have := Own.has_puts (ws := wa) (.inl (has_look.2 ⟨ob', hl⟩))
        obtain ⟨ob2, h2⟩ := has_look.1 this
        rw [hn] at h2; cases h2
    · exact absurd rfl hne)
  -- what b writes
  have wbw : ∀ j ∈ wb.map (·.1), (j = nx + i ∧ own.look j = none) ∨ (wrOp b.op = true ∧ j ∈ keysOf b ev) := fun j hj => by
    rcases eb.wr j hj with ⟨h1, hn, _⟩ | ⟨_, hw, hjb⟩
    · refine .inl ⟨h1, ?_⟩
      cases hl : own.look j with
      | none => rfl
      | some ob' =>
        have := Own.has_puts (ws := wa) (.inl (has_look.2 ⟨ob', hl⟩))
        obtain ⟨ob2, h2⟩ := has_look.1 this
        rw [hn] at h2; cases h2
    · exact .inr ⟨hw, hjb⟩
  have r2 : ∀ j ∈ keysOf a ev, j ∉ wb.map (·.1) := fun j hj hm => by
    rcases wbw j hm with ⟨_, hn⟩ | ⟨hw, hjb⟩
    · exact fresh (hka j hj) hn
    · rcases hd with ⟨_, h | h⟩ | h
      · rw [h] at hw; cases hw
      · rw [nord a h] at hj; cases hj
      · exact h j hj hjb
  have ha : (runE P call icall On kf k a ev (own.puts wb) nx).val = some (x, (own.puts wb).puts wa) := ea.run (own.puts wb) (fun j hj => look_puts_out (r2 j hj)) (fun hm => by
    obtain ⟨ob, hm⟩ := hm
    rcases ea.wr _ (List.mem_map.2 ⟨_, hm, rfl⟩) with ⟨_, hn, _⟩ | ⟨hne, _⟩
    · rw [look_puts_out fun hmb => ?_]
      · exact hn
      · rcases wbw _ hmb with ⟨h1, _⟩ | ⟨_, hjb⟩
        · omega
        · exact fresh (hkb _ hjb) hn
    · exact absurd rfl hne)
  refine ⟨hb, ha, fun j hj hm => ?_⟩
  rcases ea.wr j hj with ⟨h1, hn, _⟩ | ⟨_, hw, hja⟩
  · rcases wbw j hm with ⟨h2, _⟩ | ⟨_, hjb⟩
    · omega
    · exact fresh (hkb _ hjb) hn
  · exact r2 j hja hm
theorem puts_eqv {own : Own} {wa wb : List (Nat × OB)} (h : ∀ j, j ∈ wa.map (·.1) → j ∉ wb.map (·.1)) : Eqv ((own.puts wa).puts wb) ((own.puts wb).puts wa) := fun j => by
  by_cases ha : j ∈ wa.map (·.1)
  · rw [look_puts_out (h j ha)]
    exact look_puts_in ha
  · by_cases hb : j ∈ wb.map (·.1)
    · rw [look_puts_out (own := own.puts wb) ha]
      exact look_puts_in hb
    · rw [look_puts_out hb, look_puts_out ha, look_puts_out ha, look_puts_out hb]
theorem Eff.nil {i : Nat} {o : Oper} {ev : Operand → AV} {own : Own} {nx : Nat} {x : AV} {ws : List (Nat × OB)} (e : Eff P call icall On kf i o ev own nx x ws) (h : mayW o.op = false) : ws = [] := by
  unfold mayW at h
  rw [Bool.or_eq_false_iff] at h
  cases ws with
  | nil => rfl
  | cons q r =>
    rcases e.wr q.1 (by simp) with ⟨_, _, hn⟩ | ⟨_, hw, _⟩
    · rw [h.2] at hn; cases hn
    · rw [h.1] at hw; cases hw
theorem guess_sub {i : Nat} {c : Bool} {l : List (Bool × List Nat)} (hk : kf.kf = .gs c l) {ks : List Nat} (h : guessOk kf i ks = true) : ∀ k ∈ ks, k ∈ (l.getD i (false, [])).2 := fun k hm => by
  unfold guessOk at h
  rw [hk] at h
  simpa using (List.all_eq_true.1 h) k hm
theorem runE_keep {i : Nat} {o : Oper} {ev : Operand → AV} {own own1 : Own} {nx : Nat} {x : AV} {q : FuncId × List AV} {l : List (Bool × List Nat)} (hk : kf.kf = .gs true l) (hq : openOf P On o ev = some q)
    (h : (runE P call icall On kf i o ev own nx).val = some (x, own1)) {k : Nat} (hm : k ∈ othK l i) (hh : has own k = true) : own1.look k = own.look k := by
  obtain ⟨f, args, ats, caps, ho, _⟩ := openOf_some hq
  obtain ⟨ob, hl⟩ := has_look.1 hh
  rw [hl]
  unfold runE at h
  rw [ho] at h
  simp only at h
  rw [ho.symm] at h
  rw [hq] at h
  simp only at h
  split at h
  · obtain ⟨res, hres, h⟩ := Tr.bind_some h
    split at h
    · obtain ⟨h1, h2⟩ := keepT_some h
      simp only [← h1] at h2
      obtain ⟨u, hu⟩ := h2 l hk k hm
      exact sameB_eq hu hl
    · cases h
  · cases h
/-- A load beside a call that leaves alone what it reads. -/
theorem load_beside {i k : Nat} {a b : Oper} {ev : Operand → AV} {own own1 : Own} {nx : Nat} {x : AV} {q : FuncId × List AV} {l : List (Bool × List Nat)} (hk : kf.kf = .gs true l) (hq : openOf P On a ev = some q)
    (h : (runE P call icall On kf k a ev own nx).val = some (x, own1)) (hfl : (l.getD i (false, [])).1 = false) (hd : disj (l.getD k (false, [])).2 (l.getD i (false, [])).2 = true)
    (hg : guessOk kf i (keysOf b ev) = true) (hok : okKeys own (keysOf b ev)) : ∀ j ∈ keysOf b ev, own1.look j = own.look j := fun j hj => by
  refine runE_keep hk hq h ?_ (hok j hj)
  have hj2 := guess_sub hk hg j hj
  unfold othK
  rw [List.mem_filter, List.mem_flatMap]
  refine ⟨⟨l.getD i (false, []), List.mem_filter.2 ⟨?_, by rw [hfl]; rfl⟩, hj2⟩, ?_⟩
  · rw [List.getD_eq_getElem?_getD] at hj2 ⊢
    cases hl : l[i]? with
    | none => rw [hl] at hj2; cases hj2
    | some y => exact List.mem_of_getElem? hl
  · cases hc : (l.getD k (false, [])).2.contains j with
    | false => rfl
    | true =>
      have := (List.all_eq_true.1 hd) j (by simpa using hc)
      simp at this
      exact absurd hj2 this
theorem comm (hs : kf.kf ≠ .seq) {k i : Nat} (hki : k ≠ i) {st s1 s2 : Stt} (hwf : WF st) (hin : indep kf ops k i = true) (h1 : (stepT P call icall On kf ops k st).val = some s1) (h2 : (stepT P call icall On kf ops i s1).val = some s2) :
    ∃ s1', (stepT P call icall On kf ops i st).val = some s1' ∧ ∃ s2', (stepT P call icall On kf ops k s1').val = some s2' ∧ Sim kf s2 s2' := by
  unfold indep at hin
  split at hin
  case h_2 => cases hin
  rename_i a b hk hi
  rw [Bool.and_eq_true] at hin
  obtain ⟨hap, hm⟩ := hin
  obtain ⟨a1, a2, a3⟩ := Oper.apart_spec hap
  have e1 : ∀ (tm : List AV) (x : AV), gd ops b (putL tm a.dst x) = gd ops b tm := fun tm x => gd_put a1
  have e2 : ∀ (tm : List AV) (x : AV), gd ops a (putL tm b.dst x) = gd ops a tm := fun tm x => gd_put a3
  have e3 : ∀ (tm : List AV) (x : AV) (own : Own) (nx : Nat), runE P call icall On kf i b (opd (putL tm a.dst x)) own nx = runE P call icall On kf i b (opd tm) own nx := fun tm x own nx => runE_congr (opds_put a1)
  have e4 : ∀ (tm : List AV) (x : AV) (own : Own) (nx : Nat), runE P call icall On kf k a (opd (putL tm b.dst x)) own nx = runE P call icall On kf k a (opd tm) own nx := fun tm x own nx => runE_congr (opds_put a3)
  rw [stepT_val hk] at h1
  rw [stepT_val hi] at h2
  simp only [stepT_val hi, stepT_val hk]
  cases hga : gd ops a st.tm with
  | none => rw [hga] at h1; cases h1
  | some ga =>
    rw [hga] at h1
    cases ga with
    | false =>
      simp only [Option.some.injEq] at h1; subst h1
      simp only [skipS, e1] at h2
      cases hgb : gd ops b st.tm with
      | none => rw [hgb] at h2; cases h2
      | some gb =>
        rw [hgb] at h2
        cases gb with
        | false =>
          simp only [Option.some.injEq] at h2; subst h2
          refine ⟨_, rfl, _, by simp only [skipS, e2, hga]; rfl, .inl ?_⟩
          rw [putL_comm a2]
        | true =>
          simp only at h2 ⊢
          obtain ⟨x, own1, h3, rfl⟩ := runT_some h2
          simp only [e3] at h3
          refine ⟨_, runT_of h3, _, by simp only [e2, hga, skipS]; rfl, .inl ?_⟩
          simp only
          rw [putL_comm a2]
    | true =>
      simp only at h1
      obtain ⟨x, own1, h3, rfl⟩ := runT_some h1
      simp only [e1] at h2
      cases hgb : gd ops b st.tm with
      | none => rw [hgb] at h2; cases h2
      | some gb =>
        rw [hgb] at h2
        cases gb with
        | false =>
          simp only [Option.some.injEq] at h2; subst h2
          refine ⟨_, rfl, ?_⟩
          simp only [skipS, e2, hga]
          refine ⟨_, runT_of (st := ⟨putL st.tm b.dst undefA, st.own, st.nx⟩) (by simp only [e4]; exact h3), .inl ?_⟩
          simp only
          rw [putL_comm a2]
        | true =>
          simp only at h2 ⊢
          obtain ⟨y, own2, h4, rfl⟩ := runT_some h2
          simp only [e3] at h4
          -- the two as local operations
          have loc : ∀ {wa wb : List (Nat × OB)}, own1 = st.own.puts wa → own2 = own1.puts wb → Eff P call icall On kf k a (opd st.tm) st.own st.nx x wa → Eff P call icall On kf i b (opd st.tm) own1 st.nx y wb →
              ((wrOp a.op = false ∨ rdOp b.op = false) ∧ (wrOp b.op = false ∨ rdOp a.op = false) ∨ ∀ j ∈ keysOf a (opd st.tm), j ∉ keysOf b (opd st.tm)) → (globs kf = false ∨ wa = [] ∨ wb = []) →
              ∃ s1', (runT P call icall On kf i b st).val = some s1' ∧ ∃ s2', (match gd ops a s1'.tm with | none => none | some true => (runT P call icall On kf k a s1').val | some false => some (skipS a s1')) = some s2' ∧ Sim kf ⟨putL (putL st.tm a.dst x) b.dst y, own2, st.nx⟩ s2' := by
            intro wa wb he1 he2 ea eb hd hg
            subst he1; subst he2
            obtain ⟨f1, f2, f3⟩ := comm_local hki (keys_has hwf) (keys_has hwf) ea eb hd
            refine ⟨_, runT_of f1, ?_⟩
            simp only [e2, hga]
            refine ⟨_, runT_of (st := ⟨putL st.tm b.dst y, st.own.puts wb, st.nx⟩) (by simp only [e4]; exact f2), ?_⟩
            rcases hg with hg | rfl | rfl
            · exact .inr ⟨hg, putL_comm a2, rfl, puts_eqv f3⟩
            · exact .inl (by simp only [Own.puts]; rw [putL_comm a2])
            · exact .inl (by simp only [Own.puts]; rw [putL_comm a2])
          have dj : ((!(wrOp a.op && rdOp b.op) && !(wrOp b.op && rdOp a.op)) = true) → ((wrOp a.op = false ∨ rdOp b.op = false) ∧ (wrOp b.op = false ∨ rdOp a.op = false)) := fun h => by
            simpa using h
          cases hkf : kf.kf with
          | seq => exact absurd hkf hs
          | syn =>
            rw [hkf] at hm
            simp only at hm
            have hng : ∀ j, globOk kf j ≠ true := fun j h => by unfold globOk at h; rw [hkf] at h; cases h
            rcases runE_eff h3 with ⟨hg, _⟩ | ⟨wa, he1, ea⟩
            · exact absurd hg (hng _)
            · rcases runE_eff h4 with ⟨hg, _⟩ | ⟨wb, he2, eb⟩
              · exact absurd hg (hng _)
              · exact loc he1 he2 ea eb (.inl (dj hm)) (.inl (by unfold globs; rw [hkf]))
          | gs c l =>
            rw [hkf] at hm
            simp only at hm
            have hgk : ∀ j, globOk kf j = (l.getD j (false, [])).1 := fun j => by unfold globOk; rw [hkf]
            cases hlk : (l.getD k (false, [])).1 with
            | false =>
              cases hli : (l.getD i (false, [])).1 with
              | false =>
                rw [hlk, hli] at hm
                simp only [Bool.and_eq_true, Bool.or_eq_true] at hm
                rcases runE_eff h3 with ⟨hg, _⟩ | ⟨wa, he1, ea⟩
                · rw [hgk, hlk] at hg; cases hg
                · rcases runE_eff h4 with ⟨hg, _⟩ | ⟨wb, he2, eb⟩
                  · rw [hgk, hli] at hg; cases hg
                  · refine loc he1 he2 ea eb ?_ ?_
                    · rcases hm.1 with h | h
                      · exact .inl (dj (by simpa using h))
                      · refine .inr fun j hja hjb => ?_
                        have := (List.all_eq_true.1 h) j (guess_sub hkf ea.gs j hja)
                        have h5 := guess_sub hkf eb.gs j hjb
                        simp at this
                        exact this h5
                    · rcases hm.2 with h | h
                      · exact .inl (by unfold globs; rw [hkf]; simpa using h)
                      · right
                        simp only [Bool.not_eq_true', Bool.and_eq_false_iff] at h
                        rcases h with h | h
                        · exact .inl (ea.nil h)
                        · exact .inr (eb.nil h)
              | true =>
                rw [hlk, hli] at hm
                simp only [Bool.or_eq_true, Bool.and_eq_true] at hm
                rcases runE_eff h3 with ⟨hg, _⟩ | ⟨wa, he1, ea⟩
                · rw [hgk, hlk] at hg; cases hg
                · -- a only reads
                  have hq : mayW a.op = false := by
                    rcases hm with hm | ⟨_, hm, _⟩
                    · simp only [quiet, Bool.and_eq_true, Bool.not_eq_true'] at hm
                      unfold mayW; rw [hm.1.2, hm.2]; rfl
                    · simpa using hm
                  have := ea.nil hq
                  subst this
                  simp only [Own.puts] at he1
                  subst he1
                  refine ⟨_, runT_of h4, ?_⟩
                  simp only [e2, hga]
                  have hrun := ea.run own2 (fun j hj => by
                    rcases hm with hm | ⟨hc, _, hd⟩
                    · simp only [quiet, Bool.and_eq_true, Bool.not_eq_true'] at hm
                      unfold keysOf at hj; rw [hm.1.1] at hj; cases hj
                    · subst hc
                      rcases runE_eff h4 with ⟨_, q, hqq⟩ | ⟨wb, he2, eb⟩
                      · exact load_beside (b := a) hkf hqq h4 hlk hd ea.gs (keys_has hwf) j hj
                      · have := eb.wr
                        subst he2
                        refine look_puts_out fun hm2 => ?_
                        rcases eb.wr j hm2 with ⟨_, hnone, _⟩ | ⟨_, _, hjb⟩
                        · obtain ⟨ob, hob⟩ := has_look.1 (keys_has hwf j hj)
                          rw [hob] at hnone; cases hnone
                        · have h5 := guess_sub hkf eb.gs j hjb
                          have h6 := guess_sub hkf ea.gs j hj
                          have := (List.all_eq_true.1 hd) j h5
                          simp at this
                          exact this h6) (fun hm => by obtain ⟨_, h⟩ := hm; cases h)
                  refine ⟨_, runT_of (st := ⟨putL st.tm b.dst y, own2, st.nx⟩) (by simp only [e4]; exact hrun), .inl ?_⟩
                  simp only [Own.puts]
                  rw [putL_comm a2]
            | true =>
              cases hli : (l.getD i (false, [])).1 with
              | true => rw [hlk, hli] at hm; cases hm
              | false =>
                rw [hlk, hli] at hm
                simp only [Bool.or_eq_true, Bool.and_eq_true] at hm
                rcases runE_eff h4 with ⟨hg, _⟩ | ⟨wb, he2, eb⟩
                · rw [hgk, hli] at hg; cases hg
                · have hq : mayW b.op = false := by
                    rcases hm with hm | ⟨_, hm, _⟩
                    · simp only [quiet, Bool.and_eq_true, Bool.not_eq_true'] at hm
                      unfold mayW; rw [hm.1.2, hm.2]; rfl
                    · simpa using hm
                  have := eb.nil hq
                  subst this
                  simp only [Own.puts] at he2
                  subst he2
                  have hrun := eb.run st.own (fun j hj => by
                    rcases hm with hm | ⟨hc, _, hd⟩
                    · simp only [quiet, Bool.and_eq_true, Bool.not_eq_true'] at hm
                      unfold keysOf at hj; rw [hm.1.1] at hj; cases hj
                    · subst hc
                      rcases runE_eff h3 with ⟨_, q, hqq⟩ | ⟨wa, he1, ea⟩
                      · exact (load_beside (b := b) hkf hqq h3 hli hd eb.gs (keys_has hwf) j hj).symm
                      · subst he1
                        refine (look_puts_out fun hm2 => ?_).symm
                        rcases ea.wr j hm2 with ⟨_, hnone, _⟩ | ⟨_, _, hja⟩
                        · obtain ⟨ob, hob⟩ := has_look.1 (keys_has hwf j hj)
                          rw [hob] at hnone; cases hnone
                        · have h5 := guess_sub hkf ea.gs j hja
                          have h6 := guess_sub hkf eb.gs j hj
                          have := (List.all_eq_true.1 hd) j h5
                          simp at this
                          exact this h6) (fun hm => by obtain ⟨_, h⟩ := hm; cases h)
                  refine ⟨_, runT_of hrun, ?_⟩
                  simp only [e2, hga]
                  refine ⟨_, runT_of (st := ⟨putL st.tm b.dst y, st.own, st.nx⟩) (by simp only [e4]; exact h3), .inl ?_⟩
                  simp only
                  rw [putL_comm a2]
end
end Go.Proofs.Ytacgchandefjgaa
