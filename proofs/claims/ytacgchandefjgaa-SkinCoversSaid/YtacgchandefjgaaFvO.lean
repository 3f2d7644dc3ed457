/-
  The evaluator is right: operations that Go may carry out in any order. No program is named here.
-/
import Derived.Test.YtacgchandefjgaaFvN
namespace Go.Proofs.Ytacgchandefjgaa
open Go
section
variable {P : Program} {call : CallT} {icall : ICallT} {On : FuncId → Bool} {ops : Array Oper} {kf : Md}
theorem opd_put {tm : List AV} {dst : Option Tmp} {x : AV} {y : Operand} (h : ∀ d, dst = some d → y ≠ .tmp d) : opd (putL tm dst x) y = opd tm y := by
  cases dst with
  | none => rfl
  | some d =>
    cases y with
    | tmp t =>
      have hne : d ≠ t := fun e => h d rfl (e ▸ rfl)
      simp [opd, putL, List.getElem?_set_ne hne]
    | _ => rfl
theorem generic_congr {ev ev' : Operand → AV} {o : Oper} (hs : ∀ cs b, o.op ≠ .select cs b) (h : ∀ y ∈ o.op.operands, ev y = ev' y) : generic P o ev = generic P o ev' := by
  have e1 : o.op.operands.toList.map ev = o.op.operands.toList.map ev' := List.map_congr_left fun y hy => h y (by simpa using hy)
  have e2 : execOp (fun x => rawOr (ev x)) o = execOp (fun x => rawOr (ev' x)) o := execOp_congr o hs fun y hy => by rw [h y hy]
  unfold generic
  rw [e1, e2]
theorem partsOf_congr {ev ev' : Operand → AV} : ∀ {ps : List (Nat × Operand)}, (∀ q ∈ ps, ev q.2 = ev' q.2) → partsOf ev ps = partsOf ev' ps
  | [], _ => rfl
  | q :: r, h => by
    simp only [partsOf]
    rw [h q List.mem_cons_self, partsOf_congr fun q hq => h q (List.mem_cons_of_mem _ hq)]
theorem opF_congr {lk : Nat → Option OB} {key : Nat} {o : Oper} {ev ev' : Operand → AV} (h : ∀ y ∈ o.op.operands, ev y = ev' y) : opF P call lk key o ev = opF P call lk key o ev' := by
  have gc : (∀ cs b, o.op ≠ .select cs b) → generic P o ev = generic P o ev' := fun hs => generic_congr hs h
  have gi : (∀ cs b, o.op ≠ .select cs b) → opInvoke P call o ev = opInvoke P call o ev' := fun hs => by
    have e1 : o.op.operands.toList.map ev = o.op.operands.toList.map ev' := List.map_congr_left fun y hy => h y (by simpa using hy)
    have e2 : execOp (fun x => rawOr (ev x)) o = execOp (fun x => rawOr (ev' x)) o := execOp_congr o hs fun y hy => by rw [h y hy]
    unfold opInvoke
    rw [e1, e2]
  unfold opF
  split <;> rename_i ho <;> (try (rw [ho] at h gc gi; simp only [Op.operands] at h))
  case h_1 => rfl
  case h_2 => rw [h _ (by simp)]
  case h_3 => rw [h _ (by simp)]
  case h_4 => rw [h _ (by simp), h _ (by simp)]
  case h_5 => rw [h _ (by simp)]
  case h_6 => rw [h _ (by simp), h _ (by simp)]
  case h_7 => rw [h _ (by simp), h _ (by simp)]
  case h_8 => rw [h _ (by simp)]
  case h_9 => rw [h _ (by simp)]
  case h_10 t ps =>
    have : partsOf ev ps.toList = partsOf ev' ps.toList := partsOf_congr fun q hq => h q.2 (by simp; exact ⟨q.1, by simpa using hq⟩)
    unfold opBuild
    rw [this]
  case h_11 t n ps =>
    have : partsOf ev ps.toList = partsOf ev' ps.toList := partsOf_congr fun q hq => h q.2 (by simp; exact ⟨q.1, by simpa using hq⟩)
    have h2 : (ps.toList.flatMap fun q => (ev q.2).keys) = ps.toList.flatMap fun q => (ev' q.2).keys := by
      have : ∀ (l : List (Nat × Operand)), (∀ q ∈ l, ev q.2 = ev' q.2) → (l.flatMap fun q => (ev q.2).keys) = l.flatMap fun q => (ev' q.2).keys := fun l hl => by
        induction l with
        | nil => rfl
        | cons q l ih => rw [List.flatMap_cons, List.flatMap_cons, hl q List.mem_cons_self, ih fun q hq => hl q (List.mem_cons_of_mem _ hq)]
      exact this _ fun q hq => h q.2 (by simp; exact ⟨q.1, by simpa using hq⟩)
    unfold opSliceLit
    rw [this, h2]
  case h_12 => rw [h _ (by simp), h _ (by simp)]
  case h_13 t y lo hi mx =>
    have e1 : loOf ev lo = loOf ev' lo := by
      cases lo with
      | none => rfl
      | some z => simp only [loOf]; rw [h z (by simp)]
    have e2 : ∀ n kl, hiOf ev n kl hi = hiOf ev' n kl hi := fun n kl => by
      cases hi with
      | none => rfl
      | some z => simp only [hiOf]; rw [h z (by simp)]
    have e5 : hiZ ev hi = hiZ ev' hi := by
      cases hi with
      | none => rfl
      | some z => simp only [hiZ]; rw [h z (by simp)]
    rw [h y (by simp)]
    unfold opSlice
    cases mx with
    | none => simp only [e1, e2, e5]
    | some m =>
      cases hi with
      | none => cases lo <;> rfl
      | some z =>
        have e3 := h z (by simp)
        have e4 := h m (by simp)
        dsimp only
        cases lo with
        | some l =>
          have e6 := h l (by simp)
          cases elTy P lk t (ev' y) with
          | none => rfl
          | some q =>
            dsimp only
            rw [e3, e4, e6]
        | none =>
          cases elTy P lk t (ev' y) with
          | none => rfl
          | some q =>
            dsimp only
            rw [e3, e4]
  case h_14 => rw [h _ (by simp), gc (by simp)]
  case h_15 fn first caps =>
    have : caps.toList.map ev = caps.toList.map ev' := List.map_congr_left fun y hy => h y (by simp; right; simpa using hy)
    rw [this, gc (by simp)]
  case h_16 cl =>
    obtain ⟨callee, args, ats⟩ := cl
    have ha : args.toList.map ev = args.toList.map ev' := List.map_congr_left fun y hy => h y (by simp [Call.operands]; right; simpa using hy)
    have hm : ∀ y ∈ args.toList, ev y = ev' y := fun y hy => h y (by simp [Call.operands]; right; simpa using hy)
    have hg := gc (by simp)
    cases callee with
    | value f =>
      have hf := h f (by simp [Call.operands])
      have hgi := gi (by simp)
      simp only [hf, ha, hgi]
    | invoke r m => exact gi (by simp)
    | builtin b =>
      dsimp only
      split
      · rename_i t1 t2 y z e1 e2
        rw [hm y (by rw [e2]; simp), hm z (by rw [e2]; simp)]
      · rename_i t y e1 e2
        rw [hm y (by rw [e2]; simp)]
        unfold opLen
        rw [hg]
      · rfl
      · rename_i t1 t2 y z e1 e2
        rw [hm y (by rw [e2]; simp), hm z (by rw [e2]; simp)]
      · rfl
      · rename_i t y e1 e2
        rw [hm y (by rw [e2]; simp)]
      · rfl
      · rfl
      · exact hg
  case h_17 op t y z yt =>
    rw [h y (by simp), h z (by simp)]
    unfold opBin opBin.opEq
    rw [gc (by simp)]
  case h_18 => exact gc (by simp)
  case h_19 => exact gc (by simp)
  case h_20 s d x =>
    rw [h _ (by simp)]
    unfold opConv
    rw [gc (by simp)]
  case h_21 => rfl
theorem keysOf_congr {o : Oper} {ev ev' : Operand → AV} (h : ∀ y ∈ o.op.operands, ev y = ev' y) : keysOf o ev = keysOf o ev' := by
  have e1 : o.op.operands.toList.map ev = o.op.operands.toList.map ev' := List.map_congr_left fun y hy => h y (by simpa using hy)
  unfold keysOf; rw [e1]
theorem openOf_congr {o : Oper} {ev ev' : Operand → AV} (h : ∀ y ∈ o.op.operands, ev y = ev' y) : openOf P On o ev = openOf P On o ev' := by
  unfold openOf
  split
  · rename_i cl ho
    obtain ⟨callee, args, ats⟩ := cl
    rw [ho] at h
    cases callee with
    | value f =>
      have hf := h f (by simp [Op.operands, Call.operands])
      have ha : args.toList.map ev = args.toList.map ev' := List.map_congr_left fun y hy => h y (by simp [Op.operands, Call.operands]; right; simpa using hy)
      simp only [hf, ha]
    | invoke r m => rfl
    | builtin b => rfl
  · rfl
theorem runE_congr {i : Nat} {o : Oper} {ev ev' : Operand → AV} {own : Own} {nx : Nat} (h : ∀ y ∈ o.op.operands, ev y = ev' y) : runE P call icall On kf i o ev own nx = runE P call icall On kf i o ev' own nx := by
  have e1 : o.op.operands.toList.map ev = o.op.operands.toList.map ev' := List.map_congr_left fun y hy => h y (by simpa using hy)
  have e2 : (o.op.operands.toList.any fun y => (ev y).isJunk) = o.op.operands.toList.any fun y => (ev' y).isJunk := by
    have := congrArg (fun l => l.any AV.isJunk) e1
    simpa [List.any_map] using this
  have e3 : keysOf o ev = keysOf o ev' := keysOf_congr h
  have e4 : ∀ ks own, fin1 P On o (nx + i) ev own ks = fin1 P On o (nx + i) ev' own ks := fun ks own => by
    funext r
    unfold fin1 allowed
    rw [e1]
  have e5 : ∀ lk, opF P call lk (nx + i) o ev = opF P call lk (nx + i) o ev' := fun lk => opF_congr h
  unfold runE
  split <;> rename_i ho <;> (try (rw [ho] at h; simp only [Op.operands] at h))
  · rw [h _ (by simp)]
  · rw [h _ (by simp)]
  · rw [h _ (by simp), h _ (by simp), h _ (by simp)]
  · rw [openOf_congr h, e2, e3, e4]
    simp only [e5]
theorem look_puts_out : ∀ {ws : List (Nat × OB)} {own : Own} {k : Nat}, k ∉ ws.map (·.1) → (own.puts ws).look k = own.look k
  | [], _, _, _ => rfl
  | q :: r, own, k, h => by
    simp only [List.map_cons, List.mem_cons, not_or] at h
    simp only [Own.puts]
    rw [look_puts_out h.2, Own.look_set, if_neg h.1]
theorem look_puts_in : ∀ {ws : List (Nat × OB)} {own own' : Own} {k : Nat}, k ∈ ws.map (·.1) → (own.puts ws).look k = (own'.puts ws).look k
  | [], _, _, _, h => by cases h
  | q :: r, own, own', k, h => by
    simp only [Own.puts]
    by_cases hr : k ∈ r.map (·.1)
    · exact look_puts_in hr
    · rw [look_puts_out hr, look_puts_out hr, Own.look_set, Own.look_set]
      have : k = q.1 := by
        simp only [List.map_cons, List.mem_cons] at h
        exact h.resolve_right hr
      simp [this]
/-- What an operation reads of own memory, and what it writes there. -/
structure Eff (P : Program) (call : CallT) (icall : ICallT) (On : FuncId → Bool) (kf : Md) (i : Nat) (o : Oper) (ev : Operand → AV) (own : Own) (nx : Nat) (x : AV) (ws : List (Nat × OB)) : Prop where
  run : ∀ own2, (∀ k ∈ keysOf o ev, own2.look k = own.look k) → ((∃ ob, (nx + i, ob) ∈ ws) → own2.look (nx + i) = none) → (runE P call icall On kf i o ev own2 nx).val = some (x, own2.puts ws)
  wr : ∀ k ∈ ws.map (·.1), (k = nx + i ∧ own.look k = none ∧ newOp o.op = true) ∨ (k ≠ nx + i ∧ wrOp o.op = true ∧ k ∈ keysOf o ev)
  gs : guessOk kf i (keysOf o ev) = true
theorem wr_rd {o : Op} (h : wrOp o = true) : rdOp o = true := by
  cases o <;> first | rfl | (simp [wrOp] at h; done) | skip
  rename_i cl
  obtain ⟨callee, args, ats⟩ := cl
  cases callee with
  | value f => rfl
  | invoke r m => simp [wrOp] at h
  | builtin b => cases b <;> first | rfl | simp [wrOp] at h
theorem runE_eff {i : Nat} {o : Oper} {ev : Operand → AV} {own own1 : Own} {nx : Nat} {x : AV} (h : (runE P call icall On kf i o ev own nx).val = some (x, own1)) :
    (globOk kf i = true ∧ (∃ q, openOf P On o ev = some q)) ∨ ∃ ws, own1 = own.puts ws ∧ Eff P call icall On kf i o ev own nx x ws := by
  have h0 := h
  have quiet : (∀ own2 : Own, (runE P call icall On kf i o ev own2 nx).val = some (x, own2)) → own1 = own → guessOk kf i (keysOf o ev) = true → ∃ ws, own1 = own.puts ws ∧ Eff P call icall On kf i o ev own nx x ws := fun hr he hg => by
    exact ⟨[], he, ⟨(fun own2 _ _ => hr own2), (fun k hk => by simp at hk), hg⟩⟩
  have gnil : rdOp o.op = false → guessOk kf i (keysOf o ev) = true := fun hr => by
    unfold keysOf guessOk; rw [hr]; split <;> rfl
  unfold runE at h
  split at h
  · rename_i y ho
    have := ret_some h
    simp only [Prod.mk.injEq] at this
    obtain ⟨rfl, rfl⟩ := this
    exact .inr (quiet (fun own2 => by unfold runE; rw [ho]; rfl) rfl (gnil (by rw [ho]; rfl)))
  · rename_i y ho
    have := ret_some h
    simp only [Prod.mk.injEq] at this
    obtain ⟨rfl, rfl⟩ := this
    exact .inr (quiet (fun own2 => by unfold runE; rw [ho]; rfl) rfl (gnil (by rw [ho]; rfl)))
  · rename_i c y z ho
    split at h
    · rename_i kn t ht
      rcases Tr.val_ite_some h with ⟨hb, h'⟩ | ⟨hb, h'⟩ <;> (have := ret_some h'; simp only [Prod.mk.injEq] at this; obtain ⟨rfl, rfl⟩ := this; subst hb)
      · exact .inr (quiet (fun own2 => by unfold runE; rw [ho]; simp only [ht, Tr.val_ite]; rfl) rfl (gnil (by rw [ho]; rfl)))
      · exact .inr (quiet (fun own2 => by unfold runE; rw [ho]; simp only [ht, Tr.val_ite]; rfl) rfl (gnil (by rw [ho]; rfl)))
    · cases h
  · rename_i n1 n2 n3
    split at h
    · rename_i q hq
      split at h
      · rename_i hg
        rw [Bool.and_eq_true] at hg
        exact .inl ⟨hg.1, q, hq⟩
      · cases h
    · rename_i hq
      split at h
      · rename_i hj hg
        obtain ⟨⟨y, ws⟩, h1, h2⟩ := Tr.bind_some h
        obtain ⟨h3, h4, h5⟩ := fin1_some h2
        have h7 := fin1_calm h2
        simp only [Prod.mk.injEq] at h5
        obtain ⟨rfl, rfl⟩ := h5
        refine .inr ⟨ws, rfl, ⟨fun own2 ho2 hn2 => ?_, fun k hk => ?_, hg⟩⟩
        · have hlk : lkOf (keysOf o ev) own2 = lkOf (keysOf o ev) own := by
            funext k
            unfold lkOf
            split
            · rename_i hc
              exact ho2 k (by simpa using hc)
            · rfl
          have hwr : wrOk o (nx + i) own2 (keysOf o ev) ws = true := by
            unfold wrOk at h3 ⊢
            rw [List.all_eq_true] at h3 ⊢
            intro q hqm
            have := h3 q hqm
            cases hb : Nat.beq q.1 (nx + i) with
            | false => rw [hb] at this; exact this
            | true =>
              rw [hb] at this
              simp only [Bool.and_eq_true] at this ⊢
              refine ⟨this.1, ?_⟩
              have hqe := Nat.eq_of_beq_eq_true hb
              have := hn2 ⟨q.2, by rw [← hqe]; exact hqm⟩
              unfold has
              rw [this]; rfl
          unfold runE
          split
          · exact absurd (by assumption) (n1 _)
          · exact absurd (by assumption) (n2 _)
          · exact absurd (by assumption) (n3 _ _ _)
          · rw [hq]
            simp only [hj, hg, hlk, Tr.val_bind, h1, Option.bind_some]
            unfold fin1
            simp only [hwr, hlk, h4, h7]
            rfl
        · obtain ⟨q, hqm, rfl⟩ := List.mem_map.1 hk
          have := (List.all_eq_true.1 h3) q hqm
          cases hb : Nat.beq q.1 (nx + i) with
          | false =>
            rw [hb] at this
            simp only [Bool.and_eq_true] at this
            exact .inr ⟨(fun e => by rw [e, Nat.beq_refl] at hb; cases hb), this.1, by simpa using this.2⟩
          | true =>
            rw [hb] at this
            simp only [Bool.and_eq_true, Bool.not_eq_true'] at this
            have hqe := Nat.eq_of_beq_eq_true hb
            refine .inl ⟨hqe, ?_, this.1⟩
            have h6 := this.2
            rw [hqe]
            unfold has at h6
            cases hl : own.look (nx + i) with
            | none => rfl
            | some ob => rw [hl] at h6; cases h6
      · cases h
      · cases h
end
end Go.Proofs.Ytacgchandefjgaa
