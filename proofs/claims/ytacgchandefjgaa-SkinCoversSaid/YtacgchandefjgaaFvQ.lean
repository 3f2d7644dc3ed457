/-
  The evaluator is right: a region whose order is drawn. No program is named here.
-/
import Derived.Test.YtacgchandefjgaaFvP
namespace Go.Proofs.Ytacgchandefjgaa
open Go
section
variable {P : Program} {call : CallT} {icall : ICallT} {On : FuncId → Bool} {ops : Array Oper} {kf : Md}
theorem mem_put {tm : List AV} {dst : Option Tmp} {x y : AV} (h : y ∈ putL tm dst x) : y ∈ tm ∨ y = x := by
  cases dst with
  | none => exact .inl h
  | some d => exact List.mem_or_eq_of_mem_set h
theorem puts_wf {st : Stt} (hwf : WF st) {ws : List (Nat × OB)} (h : ∀ q ∈ ws, okKeys (st.own.puts ws) q.2.keys) : ∀ k cs, (st.own.puts ws).look k = some (.cells cs) → okKeys (st.own.puts ws) (cs.flatMap CV.keys) := by
  have key : ∀ (ws : List (Nat × OB)) (own : Own) k ob, (own.puts ws).look k = some ob → own.look k = some ob ∨ ∃ q ∈ ws, q.2 = ob := fun ws => by
    induction ws with
    | nil => exact fun own k ob h => .inl h
    | cons q r ih =>
      intro own k ob h
      simp only [Own.puts] at h
      rcases ih _ k ob h with h | ⟨q', hq, e⟩
      · rw [Own.look_set] at h
        by_cases e : k = q.1
        · simp only [e, if_true, Option.some.injEq] at h
          exact .inr ⟨q, List.mem_cons_self, h⟩
        · simp only [e, if_false] at h; exact .inl h
      · exact .inr ⟨q', List.mem_cons_of_mem _ hq, e⟩
  intro k cs hk
  rcases key ws st.own k _ hk with h1 | ⟨q, hq, e⟩
  · exact fun j hj => Own.has_puts (.inl (hwf.2 k cs h1 j hj))
  · have := h q hq
    rw [e] at this
    exact this
theorem runE_wf {i : Nat} {o : Oper} {st : Stt} (hwf : WF st) {x : AV} {own1 : Own} (h : (runE P call icall On kf i o (opd st.tm) st.own st.nx).val = some (x, own1)) : okKeys own1 x.keys ∧ (∀ k cs, own1.look k = some (.cells cs) → okKeys own1 (cs.flatMap CV.keys)) ∧ (∀ k, has st.own k = true → has own1 k = true) := by
  unfold runE at h
  split at h
  · have := ret_some h
    simp only [Prod.mk.injEq] at this
    obtain ⟨rfl, rfl⟩ := this
    exact ⟨opd_ok hwf.1 _, hwf.2, fun _ h => h⟩
  · have := ret_some h
    simp only [Prod.mk.injEq] at this
    obtain ⟨rfl, rfl⟩ := this
    exact ⟨opd_ok hwf.1 _, hwf.2, fun _ h => h⟩
  · split at h
    · rcases Tr.val_ite_some h with ⟨hb, h'⟩ | ⟨hb, h'⟩ <;> (have := ret_some h'; simp only [Prod.mk.injEq] at this; obtain ⟨rfl, rfl⟩ := this)
      · exact ⟨by rw [clr_keys]; exact opd_ok hwf.1 _, hwf.2, fun _ h => h⟩
      · exact ⟨by rw [clr_keys]; exact opd_ok hwf.1 _, hwf.2, fun _ h => h⟩
    · cases h
  · split at h
    · split at h
      · obtain ⟨res, hres, h⟩ := Tr.bind_some h
        split at h
        · rename_i hall
          simp only [Bool.and_eq_true, List.all_eq_true] at hall
          have := (keepT_some h).1.symm
          subst this
          refine ⟨fun k hk => hall.1 k hk, fun k cs hk j hj => ?_, fun k hk => ?_⟩
          · have : ∀ (l : Own), l.look k = some (.cells cs) → (k, OB.cells cs) ∈ l := fun l => by
              induction l with
              | nil => intro h; cases h
              | cons q r ih =>
                obtain ⟨i, o⟩ := q
                intro h
                simp only [Own.look] at h
                split at h
                · rename_i hb
                  have := Nat.eq_of_beq_eq_true hb
                  simp only [Option.some.injEq] at h
                  subst this; subst h
                  exact List.mem_cons_self
                · exact List.mem_cons_of_mem _ (ih h)
            exact hall.2.1 _ (this _ hk) j hj
          · obtain ⟨ob, hob⟩ := has_look.1 hk
            have : ∀ (l : Own), l.look k = some ob → ∃ q ∈ l, q.1 = k := fun l => by
              induction l with
              | nil => intro h; cases h
              | cons q r ih =>
                obtain ⟨i, o⟩ := q
                intro h
                simp only [Own.look] at h
                split at h
                · rename_i hb
                  exact ⟨(i, o), List.mem_cons_self, Nat.eq_of_beq_eq_true hb⟩
                · obtain ⟨q, hq, e⟩ := ih h
                  exact ⟨q, List.mem_cons_of_mem _ hq, e⟩
            obtain ⟨q, hq, e⟩ := this _ hob
            have := hall.2.2 q hq
            rwa [e] at this
        · cases h
      · cases h
    · split at h
      · obtain ⟨⟨y, ws⟩, h1, h2⟩ := Tr.bind_some h
        obtain ⟨h3, h4, h5⟩ := fin1_some h2
        simp only [Prod.mk.injEq] at h5
        obtain ⟨rfl, rfl⟩ := h5
        obtain ⟨h6, h7⟩ := allowed_has hwf h4
        exact ⟨h6, puts_wf hwf h7, fun k hk => Own.has_puts (.inl hk)⟩
      · cases h
      · cases h
end
section
variable {P : Program} {call : CallT} {icall : ICallT} {On : FuncId → Bool} {ops : Array Oper} {kf : Md} {w0 : World} {fr0 : Nat → Prop} {Q : Exit → Act → World → Prop}
theorem RepM.eqv {ρ : Nat → Option Nat} {fr : Nat → Prop} {own own' : Own} {w : World} (r : RepM w0 fr0 ρ fr own w) (h : Eqv own own') : RepM w0 fr0 ρ fr own' w ∧ Grow own ρ fr w own' ρ fr w := by
  have g : Grow own ρ fr w own' ρ fr w := ⟨fun k ob hk => ⟨rfl, ob, by rw [← h]; exact hk, Keeps.rfl' ob⟩, fun _ h => h, fun _ _ _ => rfl, fun _ _ _ _ _ _ h => h⟩
  refine ⟨{ ext := r.ext, bas := r.bas, frlt := r.frlt, frnew := r.frnew, frold := r.frold, cells := ?_, rows := ?_, inj := ?_, okC := ?_ }, g⟩
  · intro k cs hk
    rw [← h] at hk
    obtain ⟨b, h1, h2, h3, h4, h5, h6⟩ := r.cells k cs hk
    refine ⟨b, h1, h2, h3, h4, h5, fun j x hj => ?_⟩
    obtain ⟨u, hu, hx⟩ := h6 j x hj
    exact ⟨u, hu, g.is (fun k' hk' => r.okC k cs hk k' (List.mem_flatMap.2 ⟨x, List.mem_of_getElem? hj, hk'⟩)) hx⟩
  · intro k mu kl kn e t l hk
    rw [← h] at hk
    exact r.rows k mu kl kn e t l hk
  · intro k k' ob ob' b hk hk'
    rw [← h] at hk hk'
    exact r.inj k k' ob ob' b hk hk'
  · intro k cs hk
    rw [← h] at hk
    exact fun j hj => g.has (r.okC k cs hk j hj)
theorem rep_sim {ρ : Nat → Option Nat} {fr : Nat → Prop} {a : Act} {w : World} {st st' : Stt} (r : RepS w0 fr0 ρ fr st a w) (h : Sim kf st st') : RepS w0 fr0 ρ fr st' a w ∧ Grow st.own ρ fr w st'.own ρ fr w := by
  rcases h with rfl | ⟨_, ht, _, he⟩
  · exact ⟨r, Grow.refl _ _ _ _⟩
  · obtain ⟨r', g'⟩ := r.toRepM.eqv he
    have := r.grown r' g'
    unfold RepS
    rw [← ht]
    exact ⟨this, g'⟩
theorem Rep.wf {ρ : Nat → Option Nat} {fr : Nat → Prop} {st : Stt} {a : Act} {w : World} (r : RepS w0 fr0 ρ fr st a w) : WF st := ⟨r.okT, fun k cs hk => r.okC k cs hk⟩
theorem stepT_wf {st s1 : Stt} (hwf : WF st) {i : Nat} (h : (stepT P call icall On kf ops i st).val = some s1) : WF s1 := by
  cases hi : ops[i]? with
  | none => simp only [stepT, hi] at h; have := ret_some h; subst this; exact hwf
  | some o =>
    rw [stepT_val hi] at h
    split at h
    · cases h
    · obtain ⟨x, own1, h1, rfl⟩ := runT_some h
      obtain ⟨h2, h3, h4⟩ := runE_wf hwf h1
      refine ⟨fun y hy => ?_, h3⟩
      rcases mem_put hy with hy | rfl
      · exact fun k hk => h4 k (hwf.1 y hy k hk)
      · exact h2
    · simp only [Option.some.injEq] at h; subst h
      refine ⟨fun y hy => ?_, hwf.2⟩
      rcases mem_put hy with hy | rfl
      · exact hwf.1 y hy
      · exact okKeys_nil rfl
theorem stepT_sim (hs : kf.kf ≠ .seq) {i : Nat} {st st2 s1 : Stt} (h : Sim kf st st2) (h1 : (stepT P call icall On kf ops i st).val = some s1) : ∃ s2, (stepT P call icall On kf ops i st2).val = some s2 ∧ Sim kf s1 s2 := by
  cases hi : ops[i]? with
  | none =>
    simp only [stepT, hi] at h1 ⊢
    have := ret_some h1; subst this
    exact ⟨st2, rfl, h⟩
  | some o =>
    rw [stepT_val hi] at h1
    rw [stepT_val hi]
    have ht : st2.tm = st.tm := by rcases h with rfl | ⟨_, h, _⟩; rfl; exact h.symm
    rw [ht]
    split at h1
    · cases h1
    · exact runT_sim hs h h1
    · simp only [Option.some.injEq] at h1; subst h1
      refine ⟨_, rfl, ?_⟩
      rcases h with rfl | ⟨g, h1, h2, h3⟩
      · exact .inl rfl
      · exact .inr ⟨g, by simp only [skipS]; rw [h1], h2, h3⟩
theorem foldT_sim (hs : kf.kf ≠ .seq) : ∀ {is : List Nat} {st st2 s1 : Stt}, Sim kf st st2 → (foldT P call icall On kf ops is st).val = some s1 → ∃ s2, (foldT P call icall On kf ops is st2).val = some s2 ∧ Sim kf s1 s2
  | [], st, st2, s1, h, h1 => by have := ret_some h1; subst this; exact ⟨st2, rfl, h⟩
  | i :: is, st, st2, s1, h, h1 => by
    obtain ⟨t1, h2, h3⟩ := Tr.bind_some h1
    obtain ⟨t2, h4, h5⟩ := stepT_sim hs h h2
    obtain ⟨s2, h6, h7⟩ := foldT_sim hs h5 h3
    exact ⟨s2, by simp only [foldT, Tr.val_bind, h4, Option.bind_some]; exact h6, h7⟩
/-- An operation that is apart from those before it may come first. -/
theorem bubble (hs : kf.kf ≠ .seq) {i : Nat} : ∀ {pre post : List Nat} {st st' : Stt}, WF st → (∀ k ∈ pre, k ≠ i ∧ indep kf ops k i = true) → (foldT P call icall On kf ops (pre ++ i :: post) st).val = some st' →
    ∃ s1, (stepT P call icall On kf ops i st).val = some s1 ∧ ∃ s2, (foldT P call icall On kf ops (pre ++ post) s1).val = some s2 ∧ Sim kf st' s2
  | [], post, st, st', _, _, h => by
    obtain ⟨s1, h1, h2⟩ := Tr.bind_some h
    exact ⟨s1, h1, st', h2, .inl rfl⟩
  | k :: pre, post, st, st', hwf, hp, h => by
    obtain ⟨s1, h1, h2⟩ := Tr.bind_some h
    obtain ⟨s2, h3, s3, h4, h5⟩ := bubble hs (stepT_wf hwf h1) (fun j hj => hp j (List.mem_cons_of_mem _ hj)) h2
    obtain ⟨s1', h6, s2', h7, h8⟩ := comm hs (hp k (List.mem_cons_self)).1 hwf (hp k (List.mem_cons_self)).2 h1 h3
    obtain ⟨s3', h9, h10⟩ := foldT_sim hs h8 h4
    exact ⟨s1', h6, s3', by simp only [List.cons_append, foldT, Tr.val_bind, h7, Option.bind_some]; exact h9, h5.trans h10⟩
end
section
variable {P : Program} {ops : Array Oper}
/-- What has not come up yet. -/
def rem (ops : Array Oper) (listed : Array Bool) : List Nat := (List.range ops.size).filter fun i => !listed.getD i true
def Down (ops : Array Oper) (listed : Array Bool) : Prop := ∀ i o, ops[i]? = some o → listed.getD i false = true → ∀ e ∈ o.after, Region.binds .any e = true → listed.getD e.on false = true
theorem split_at {l : List Nat} (hs : l.Pairwise (· < ·)) {i : Nat} (hi : i ∈ l) : ∃ pre post, l = pre ++ i :: post ∧ (∀ k ∈ pre, k < i) ∧ l.filter (fun j => decide (j ≠ i)) = pre ++ post := by
  obtain ⟨pre, post, rfl⟩ := List.append_of_mem hi
  rw [List.pairwise_append] at hs
  obtain ⟨_, h2, h3⟩ := hs
  have h4 := (List.pairwise_cons.1 h2).1
  refine ⟨pre, post, rfl, fun k hk => h3 k hk i (List.mem_cons_self), ?_⟩
  have f1 : pre.filter (fun j => decide (j ≠ i)) = pre := List.filter_eq_self.2 fun k hk => by
    have := h3 k hk i (List.mem_cons_self); simp; omega
  have f2 : post.filter (fun j => decide (j ≠ i)) = post := List.filter_eq_self.2 fun k hk => by
    have := h4 k hk; simp; omega
  rw [List.filter_append, List.filter_cons_of_neg (by simp), f1, f2]
theorem rem_sorted (ops : Array Oper) (listed : Array Bool) : (rem ops listed).Pairwise (· < ·) := List.Pairwise.filter _ List.pairwise_lt_range
theorem mem_rem {listed : Array Bool} {i : Nat} : i ∈ rem ops listed ↔ i < ops.size ∧ listed.getD i true = false := by
  simp [rem, List.mem_filter]
theorem rem_set {listed : Array Bool} {i : Nat} (hl : i < listed.size) : rem ops (listed.setIfInBounds i true) = (rem ops listed).filter (fun j => decide (j ≠ i)) := by
  unfold rem
  rw [List.filter_filter]
  refine List.filter_congr fun j _ => ?_
  by_cases e : j = i
  · subst e; simp [hl]
  · have : (listed.setIfInBounds i true).getD j true = listed.getD j true := getD_set_ne true (fun h => e h.symm)
    rw [this]; simp [e]
theorem getD_flip {listed : Array Bool} {i : Nat} (hl : i < listed.size) : listed.getD i true = listed.getD i false := by
  simp [hl]
theorem cert_spec {A : List Nat} (h : certOk ops A = true) {listed : Array Bool} (hd : Down ops listed) : ∀ (i : Nat) (o : Oper), ops[i]? = some o → (∀ e ∈ o.after, Region.binds .any e = true → listed.getD e.on false = true) →
    ∀ k, k < ops.size → (A.getD i 0).testBit k = true → listed.getD k false = true := by
  intro i
  induction i using Nat.strongRecOn with
  | _ i ih =>
    intro o ho hall k hk hb
    have hi : i < ops.size := (Array.getElem?_eq_some_iff.1 ho).1
    have h1 := (List.all_eq_true.1 ((List.all_eq_true.1 h) i (List.mem_range.2 hi))) k (List.mem_range.2 hk)
    rw [hb, ho] at h1
    simp only [Bool.not_true, Bool.false_or, List.any_eq_true, Bool.and_eq_true, Bool.or_eq_true, decide_eq_true_eq, beq_iff_eq] at h1
    obtain ⟨e, he, ⟨hbind, hlt⟩, h2⟩ := h1
    have hel := hall e (by simpa using he) hbind
    rcases h2 with h2 | h2
    · rw [← h2]; exact hel
    · have heo : ∃ o', ops[e.on]? = some o' := ⟨_, Array.getElem?_eq_getElem (by omega)⟩
      obtain ⟨o', ho'⟩ := heo
      exact ih e.on hlt o' ho' (hd e.on o' ho' hel) k hk h2
end
section
variable {P : Program} {call : CallT} {icall : ICallT} {On : FuncId → Bool} {ops : Array Oper} {kf : Md} {w0 : World} {fr0 : Nat → Prop} {Q : Exit → Act → World → Prop}
theorem draw_any (hc : CallOK P call) (hic : IcOK P icall) (hs : kf.kf ≠ .seq) {A : List Nat} (he : edgesOk ops = true) (hcert : certOk ops A = true) (hpair : pairsOk kf ops A = true) {st' : Stt} {own0 : Own} {ρ0 : Nat → Option Nat} {fra : Nat → Prop} {wa : World}
    (hQ : ∀ ρ' fr' a' w', RepS w0 fr0 ρ' fr' st' a' w' → Grow own0 ρ0 fra wa st'.own ρ' fr' w' → Q .normal a' w') :
    ∀ (fuel : Nat) (listed : Array Bool) (st : Stt) (ρ : Nat → Option Nat) (fr : Nat → Prop) (a : Act) (w : World), listed.size = ops.size → (rem ops listed).length ≤ fuel → Down ops listed →
      (∃ s2, (foldT P call icall On kf ops (rem ops listed) st).val = some s2 ∧ Sim kf s2 st') → RepS w0 fr0 ρ fr st a w → Grow own0 ρ0 fra wa st.own ρ fr w → wpAny P .any ops Q fuel listed a w := by
  intro fuel
  have stuck : ∀ (listed : Array Bool) (st : Stt) (ρ : Nat → Option Nat) (fr : Nat → Prop) (a : Act) (w : World), listed.size = ops.size → (∃ s2, (foldT P call icall On kf ops (rem ops listed) st).val = some s2 ∧ Sim kf s2 st') → RepS w0 fr0 ρ fr st a w → Grow own0 ρ0 fra wa st.own ρ fr w → Region.ready .any ops listed = [] → rem ops listed = [] ∧ Q .normal a w := by
    intro listed st ρ fr a w hsz h r g hr
    have hrem : rem ops listed = [] := by
      cases hl : rem ops listed with
      | nil => rfl
      | cons i0 rest =>
        exfalso
        have hi0 : i0 ∈ rem ops listed := by rw [hl]; exact List.mem_cons_self
        obtain ⟨hlt, hun⟩ := mem_rem.1 hi0
        have hmin : ∀ j ∈ rem ops listed, i0 ≤ j := fun j hj => by
          rw [hl] at hj
          rcases List.mem_cons.1 hj with e | hj
          · omega
          · have := rem_sorted ops listed
            rw [hl] at this
            have := (List.pairwise_cons.1 this).1 j hj
            omega
        have : i0 ∈ Region.ready .any ops listed := mem_ready.2 ⟨hun, ops[i0], Array.getElem?_eq_getElem hlt, fun e hee hb => by
          have h1 := (List.all_eq_true.1 he) i0 (List.mem_range.2 hlt)
          rw [Array.getElem?_eq_getElem hlt] at h1
          have h2 := (List.all_eq_true.1 h1) e (by simpa using hee)
          rw [hb] at h2
          simp only [Bool.not_true, Bool.false_or, decide_eq_true_eq] at h2
          by_cases hle : listed.getD e.on false = true
          · exact hle
          · exfalso
            have : e.on ∈ rem ops listed := mem_rem.2 ⟨by omega, by rw [getD_flip (by omega)]; simpa using hle⟩
            have := hmin _ this
            omega⟩
        rw [hr] at this
        cases this
    obtain ⟨s2, h, hsim⟩ := h
    rw [hrem] at h
    have := ret_some h
    subst this
    obtain ⟨r', g'⟩ := rep_sim r hsim
    exact ⟨hrem, hQ ρ fr a w r' (g.trans g')⟩
  induction fuel with
  | zero =>
    intro listed st ρ fr a w hsz hf hd h r g
    have hrem : rem ops listed = [] := List.length_eq_zero_iff.1 (by omega)
    have hr : Region.ready .any ops listed = [] := by
      cases hl : Region.ready .any ops listed with
      | nil => rfl
      | cons i rest =>
        exfalso
        have hi : i ∈ Region.ready .any ops listed := by rw [hl]; exact List.mem_cons_self
        obtain ⟨h0, o, ho, _⟩ := mem_ready.1 hi
        have : i ∈ rem ops listed := mem_rem.2 ⟨(Array.getElem?_eq_some_iff.1 ho).1, h0⟩
        rw [hrem] at this
        cases this
    exact ⟨hr, (stuck listed st ρ fr a w hsz h r g hr).2⟩
  | succ fuel ih =>
    intro listed st ρ fr a w hsz hf hd h r g
    refine ⟨fun hr => (stuck listed st ρ fr a w hsz h r g hr).2, fun i hi => ?_⟩
    obtain ⟨s2, h, hsim⟩ := h
    obtain ⟨h0, o, ho, hall⟩ := mem_ready.1 hi
    have hlt : i < ops.size := (Array.getElem?_eq_some_iff.1 ho).1
    have him : i ∈ rem ops listed := mem_rem.2 ⟨hlt, h0⟩
    obtain ⟨pre, post, hsplit, hpre, hfil⟩ := split_at (rem_sorted ops listed) him
    have hind : ∀ k ∈ pre, k ≠ i ∧ indep kf ops k i = true := fun k hk => by
      have hki := hpre k hk
      refine ⟨by omega, ?_⟩
      have h1 := (List.all_eq_true.1 ((List.all_eq_true.1 hpair) i (List.mem_range.2 hlt))) k (List.mem_range.2 hki)
      simp only [Bool.or_eq_true] at h1
      refine h1.resolve_left fun hb => ?_
      have hkl := cert_spec hcert hd i o ho hall k (by omega) hb
      have hkr : k ∈ rem ops listed := by rw [hsplit]; exact List.mem_append_left _ hk
      have := (mem_rem.1 hkr).2
      rw [getD_flip (by omega), hkl] at this
      cases this
    rw [hsplit] at h
    obtain ⟨s1, h1, s3, h2, h3⟩ := bubble hs r.wf hind h
    refine stepT_sound hc hic h1 r fun ρ' fr' a' w' r' g' => ih (listed.setIfInBounds i true) s1 ρ' fr' a' w' (by simpa using hsz) ?_ ?_ ⟨s3, ?_, ?_⟩ r' (g.trans g')
    · rw [rem_set (by omega), hfil]
      rw [hsplit] at hf
      simp only [List.length_append, List.length_cons] at hf ⊢
      omega
    · intro j oj hoj hj e hee hb
      by_cases e' : i = j
      · subst e'
        rw [ho] at hoj; cases hoj
        exact getD_set_true (hall e hee hb)
      · rw [getD_set_ne false e'] at hj
        exact getD_set_true (hd j oj hoj hj e hee hb)
    · rw [rem_set (by omega), hfil]; exact h2
    · rcases h3 with rfl | ⟨a1, a2, a3, a4⟩
      · exact hsim
      · exact Sim.trans (.inr ⟨a1, a2.symm, a3.symm, fun k => (a4 k).symm⟩) hsim
theorem insN_perm (a : Nat) : ∀ l : List Nat, (insN a l).Perm (a :: l)
  | [] => .refl _
  | b :: r => by
    simp only [insN]
    split
    · exact .refl _
    · exact ((insN_perm a r).cons b).trans (.swap a b r)
theorem isortN_perm : ∀ l : List Nat, (isortN l).Perm l
  | [] => .refl _
  | a :: r => (insN_perm a _).trans ((isortN_perm r).cons a)
theorem invOk_pair : ∀ {is : List Nat}, invOk kf ops is = true → is.Pairwise fun i j => i < j ∨ (indep kf ops i j = true ∧ i ≠ j)
  | [], _ => .nil
  | i :: r, h => by
    simp only [invOk, Bool.and_eq_true, List.all_eq_true] at h
    refine .cons (fun j hj => ?_) (invOk_pair h.2)
    have := h.1 j hj
    rw [Bool.or_eq_true, Bool.and_eq_true] at this
    rcases this with h1 | ⟨h1, h2⟩
    · exact .inl (by simpa using h1)
    · refine .inr ⟨h1, fun e => ?_⟩
      subst e
      simp at h2
/-- Another order. -/
theorem reorder (hs : kf.kf ≠ .seq) : ∀ {l is : List Nat} {st st' : Stt}, WF st → l.Pairwise (· < ·) → is.Perm l → is.Pairwise (fun i j => i < j ∨ (indep kf ops i j = true ∧ i ≠ j)) → (foldT P call icall On kf ops is st).val = some st' → ∃ s, (foldT P call icall On kf ops l st).val = some s ∧ Sim kf st' s
  | [], is, st, st', _, _, hp, _, h => by
    have := hp.eq_nil
    subst this
    exact ⟨st', h, .inl rfl⟩
  | a :: l, is, st, st', hwf, hl, hp, hr, h => by
    have ha : a ∈ is := hp.mem_iff.2 List.mem_cons_self
    obtain ⟨pre, post, rfl⟩ := List.append_of_mem ha
    obtain ⟨hl1, hl2⟩ := List.pairwise_cons.1 hl
    have hp2 : (pre ++ post).Perm l := (List.perm_middle.symm.trans hp).cons_inv
    rw [List.pairwise_append] at hr
    obtain ⟨r1, r2, r3⟩ := hr
    have hind : ∀ k ∈ pre, k ≠ a ∧ indep kf ops k a = true := fun k hk => by
      have hkl : k ∈ l := hp2.mem_iff.1 (List.mem_append_left _ hk)
      have := hl1 k hkl
      rcases r3 k hk a List.mem_cons_self with h1 | ⟨h1, h2⟩
      · omega
      · exact ⟨h2, h1⟩
    obtain ⟨s1, h1, s2, h2, h3⟩ := bubble hs hwf hind h
    obtain ⟨s3, h4, h5⟩ := reorder hs (stepT_wf hwf h1) hl2 hp2 (List.pairwise_append.2 ⟨r1, (List.pairwise_cons.1 r2).2, fun k hk j hj => r3 k hk j (List.mem_cons_of_mem _ hj)⟩) h2
    exact ⟨s3, by simp only [foldT, Tr.val_bind, h1, Option.bind_some]; exact h4, h3.trans h5⟩
theorem Sim.symm {a b : Stt} (h : Sim kf a b) : Sim kf b a := by
  rcases h with rfl | ⟨a1, a2, a3, a4⟩
  · exact .inl rfl
  · exact .inr ⟨a1, a2.symm, a3.symm, fun k => (a4 k).symm⟩
theorem orderFor_val {is : List Nat} {st st' : Stt} (hwf : WF st) (h : (foldT P call icall On kf ops (orderFor kf ops is) st).val = some st') : ∃ s, (foldT P call icall On kf ops (List.range ops.size) st).val = some s ∧ Sim kf s st' := by
  unfold orderFor at h
  split at h
  · exact ⟨st', h, .inl rfl⟩
  · rename_i hne
    split at h
    · rename_i hp
      unfold permOk at hp
      rw [Bool.and_eq_true] at hp
      have e := eq_of_beq hp.1
      obtain ⟨s, h1, h2⟩ := reorder (kf := kf) (fun e => hne e) hwf List.pairwise_lt_range (e ▸ (isortN_perm is).symm) (invOk_pair hp.2) h
      exact ⟨s, h1, h2.symm⟩
    · exact ⟨st', h, .inl rfl⟩
theorem rem_all (ops : Array Oper) : rem ops (Array.replicate ops.size false) = List.range ops.size := by
  unfold rem
  exact List.filter_eq_self.2 fun i hi => by simp [List.mem_range.1 hi]
theorem region_sound (hm : P.follows .mixedOrders = true) (hc : CallOK P call) (hic : IcOK P icall) {id : Nat} {draw : Bool} (hok : draw = false ∨ (kf.kf ≠ .seq ∧ drawOk kf ops = true)) {st st' : Stt} {ρ : Nat → Option Nat} {fr : Nat → Prop} {a : Act} {w : World}
    (h : (foldT P call icall On kf ops (List.range ops.size) st).val = some st') (r : RepS w0 fr0 ρ fr st a w) (hQ : To w0 fr0 ρ fr w st st' (Q .normal)) : (Code.region id ops draw).wp P Q a w := by
  cases draw with
  | false => exact wp_region (foldT_sound hc hic h r hQ)
  | true =>
    obtain ⟨hs, hok⟩ := hok.resolve_left (by simp)
    simp only [drawOk, Bool.and_eq_true] at hok
    obtain ⟨⟨he, h1⟩, h2⟩ := hok
    obtain ⟨r1, g1⟩ := r.toRepM.grow ((Ext.refl w).drew)
    refine wp_region_any hm (draw_any (On := On) hc hic hs he h1 h2 hQ ops.size _ st ρ fr a _ (by simp) ?_ ?_ ⟨st', ?_, .inl rfl⟩ (r.grown r1 g1) g1)
    · rw [rem_all]; simp
    · intro i o ho hl
      have hlt : i < ops.size := (Array.getElem?_eq_some_iff.1 ho).1
      simp [hlt] at hl
    · rw [rem_all]; exact h
end
end Go.Proofs.Ytacgchandefjgaa
