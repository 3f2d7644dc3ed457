/-
  The evaluator is right: a region whose order is drawn. No program is named here.
-/
import Derived.Test.YthgmacoljkljfaaEvH
namespace Go.Proofs.Ythgmacoljkljfaa
open Go
section
variable {P : Program} {call : CallT} {ops : Array Oper} {kf : Md}
theorem AV.ok_mono {own own' : Own} (h : ∀ k, (own k).isSome = true → (own' k).isSome = true) {x : AV} (hx : x.ok own) : x.ok own' := by
  cases x with
  | v _ _ => exact trivial
  | p k _ => exact h k hx
  | fn f caps => exact fun q hq => h _ (hx q hq)
  | junk => exact trivial
theorem upd_mono {wr : Option (Nat × List AV)} {own : Own} (k : Nat) (h : (own k).isSome = true) : (upd wr own k).isSome = true := by
  cases wr with
  | none => exact h
  | some q => simp only [upd, Own.set]; split <;> first | rfl | exact h
theorem generic_ok {tm : List AV} {own : Own} {o : Oper} {x : AV} {own1 own2 : Own} (h : (generic P o tm own).val = some (x, own1)) : x.ok own2 := by
  unfold generic at h
  split at h
  · cases h
  · split at h
    · simp only [Tr.val, Option.some.injEq, Prod.mk.injEq] at h
      obtain ⟨rfl, rfl⟩ := h
      exact trivial
    · cases h
/-- What an operation leaves leads to blocks that there are. -/
theorem opT_wf {st : Stt} (hwf : WF st) {o : Oper} {key : Nat} {x : AV} {own1 : Own} (h : (opT P call key o st.tm st.own).val = some (x, own1)) :
    x.ok own1 ∧ ∀ k cs, own1 k = some cs → ∀ y ∈ cs, y.ok own1 := by
  have same : own1 = st.own → ∀ k cs, own1 k = some cs → ∀ y ∈ cs, y.ok own1 := fun e => by subst e; exact hwf.2
  have put : ∀ (k : Nat) (cs : List AV), own1 = st.own.set k cs → (∀ y ∈ cs, y.ok st.own) → ∀ k cs, own1 k = some cs → ∀ y ∈ cs, y.ok own1 := by
    intro k cs e hcs k' cs' h' y hy
    subst e
    unfold Own.set at h'
    split at h'
    · simp only [Option.some.injEq] at h'; subst h'; exact AV.ok_set (hcs y hy) _ _
    · exact AV.ok_set (hwf.2 k' cs' h' y hy) _ _
  have gen : (generic P o st.tm st.own).val = some (x, own1) → x.ok own1 ∧ ∀ k cs, own1 k = some cs → ∀ y ∈ cs, y.ok own1 := fun h => ⟨generic_ok h, same (generic_own h).1⟩
  unfold opT at h
  split at h
  case h_1 y ho => simp only [Tr.val, Option.some.injEq, Prod.mk.injEq] at h; obtain ⟨rfl, rfl⟩ := h; exact ⟨hwf.opd y, hwf.2⟩
  case h_2 y ho => simp only [Tr.val, Option.some.injEq, Prod.mk.injEq] at h; obtain ⟨rfl, rfl⟩ := h; exact ⟨hwf.opd y, hwf.2⟩
  case h_3 c y z ho =>
    split at h
    · rcases Tr.val_ite_some h with ⟨_, h⟩ | ⟨_, h⟩ <;> (simp only [Tr.val, Option.some.injEq, Prod.mk.injEq] at h; obtain ⟨rfl, rfl⟩ := h)
      · exact ⟨hwf.opd y, hwf.2⟩
      · exact ⟨hwf.opd z, hwf.2⟩
    · cases h
  case h_4 elem ho =>
    split at h
    · obtain ⟨_, rfl, rfl⟩ := newBlock_some h
      refine ⟨by simp [AV.ok, Own.set], put _ _ rfl fun y hy => ?_⟩
      simp only [List.mem_map] at hy
      obtain ⟨_, _, rfl⟩ := hy; exact trivial
    · cases h
  case h_5 elem y ho =>
    split at h
    · obtain ⟨_, rfl, rfl⟩ := newBlock_some h
      exact ⟨by simp [AV.ok, Own.set], put _ _ rfl (ok_asCells (hwf.opd y))⟩
    · cases h
  case h_6 t y ho =>
    split at h
    · split at h
      · split at h
        · split at h
          · simp only [Tr.val, Option.some.injEq, Prod.mk.injEq] at h; obtain ⟨rfl, rfl⟩ := h; exact ⟨trivial, hwf.2⟩
          · cases h
        · cases h
      · rename_i k off hp cells n hk ht
        split at h
        · rename_i z hz
          simp only [Tr.val, Option.some.injEq, Prod.mk.injEq] at h; obtain ⟨rfl, rfl⟩ := h
          exact ⟨hwf.2 _ cells (by assumption) z (List.mem_of_getElem? hz), hwf.2⟩
        · cases h
      · cases h
    · cases h
  case h_7 t y z ho =>
    split at h
    · split at h
      · rename_i k off hp cells i hk hi
        split at h
        · simp only [Tr.val, Option.some.injEq, Prod.mk.injEq] at h; obtain ⟨rfl, rfl⟩ := h
          refine ⟨trivial, put _ _ rfl fun y' hy => ?_⟩
          simp only [splice, List.mem_append] at hy
          rcases hy with (hy | hy) | hy
          · exact hwf.2 _ cells (by assumption) y' (List.mem_of_mem_take hy)
          · exact ok_asCells (hwf.opd z) y' hy
          · exact hwf.2 _ cells (by assumption) y' (List.mem_of_mem_drop hy)
        · cases h
      · cases h
    · cases h
  case h_8 s y f ho =>
    split at h
    · rename_i k off fs hp hs
      have := hwf.opd y
      rw [hp] at this
      split at h
      · split at h
        · simp only [Tr.val, Option.some.injEq, Prod.mk.injEq] at h; obtain ⟨rfl, rfl⟩ := h; exact ⟨this, hwf.2⟩
        · cases h
      · cases h
    · cases h
  case h_9 t y ix ho =>
    split at h
    · rename_i k off n e kn ik i hp ht hix
      have := hwf.opd y
      rw [hp] at this
      split at h
      · obtain ⟨m, _, _, _, h⟩ := pickAt_some h
        simp only [Tr.val, Option.some.injEq, Prod.mk.injEq] at h; obtain ⟨rfl, rfl⟩ := h; exact ⟨this, hwf.2⟩
      · cases h
    · cases h
  case h_10 y ho =>
    split at h
    · rename_i k off hp
      have := hwf.opd y
      rw [hp] at this
      simp only [Tr.val, Option.some.injEq, Prod.mk.injEq] at h; obtain ⟨rfl, rfl⟩ := h; exact ⟨this, hwf.2⟩
    · rename_i f caps hp
      have := hwf.opd y
      rw [hp] at this
      simp only [Tr.val, Option.some.injEq, Prod.mk.injEq] at h; obtain ⟨rfl, rfl⟩ := h; exact ⟨this, hwf.2⟩
    · exact gen h
  case h_11 fn first caps ho =>
    split at h
    · rename_i f l hfirst hl
      simp only [Tr.val, Option.some.injEq, Prod.mk.injEq] at h
      obtain ⟨rfl, rfl⟩ := h
      have hcs := ptrAll_spec hl
      refine ⟨fun q hq => ?_, hwf.2⟩
      have hm : AV.p q.1 q.2 ∈ caps.toList.map (opd st.tm) := by rw [hcs]; exact List.mem_map.2 ⟨q, hq, rfl⟩
      obtain ⟨c, _, he⟩ := List.mem_map.1 hm
      have := hwf.opd c
      rw [he] at this
      exact this
    · exact gen h
  case h_12 cl ho =>
    obtain ⟨callee, args, ats⟩ := cl
    split at h
    · split at h
      · split at h
        · obtain ⟨z, hz, h⟩ := Tr.bind_some h
          simp only [Tr.val, Option.some.injEq, Prod.mk.injEq] at h; obtain ⟨rfl, rfl⟩ := h; exact ⟨trivial, hwf.2⟩
        · cases h
      · cases h
    · exact gen h
    · cases h
  case h_13 op t y z yt ho =>
    split at h
    · split at h
      · rcases Tr.val_ite_some h with ⟨_, h⟩ | ⟨_, h⟩
        · simp only [Tr.val, Option.some.injEq, Prod.mk.injEq] at h; obtain ⟨rfl, rfl⟩ := h; exact ⟨trivial, hwf.2⟩
        · cases h
      · cases h
    · split at h
      · rcases Tr.val_ite_some h with ⟨_, h⟩ | ⟨_, h⟩
        · simp only [Tr.val, Option.some.injEq, Prod.mk.injEq] at h; obtain ⟨rfl, rfl⟩ := h; exact ⟨trivial, hwf.2⟩
        · cases h
      · cases h
    · rcases Tr.val_ite_some h with ⟨_, h⟩ | ⟨_, h⟩
      · simp only [Tr.val, Option.some.injEq, Prod.mk.injEq] at h; obtain ⟨rfl, rfl⟩ := h; exact ⟨trivial, hwf.2⟩
      · cases h
    · rcases Tr.val_ite_some h with ⟨_, h⟩ | ⟨_, h⟩
      · simp only [Tr.val, Option.some.injEq, Prod.mk.injEq] at h; obtain ⟨rfl, rfl⟩ := h; exact ⟨trivial, hwf.2⟩
      · cases h
    · split at h
      · simp only [Tr.val, Option.some.injEq, Prod.mk.injEq] at h; obtain ⟨rfl, rfl⟩ := h; exact ⟨trivial, hwf.2⟩
      · cases h
    · split at h
      · simp only [Tr.val, Option.some.injEq, Prod.mk.injEq] at h; obtain ⟨rfl, rfl⟩ := h; exact ⟨trivial, hwf.2⟩
      · cases h
    · split at h
      · simp only [Tr.val, Option.some.injEq, Prod.mk.injEq] at h; obtain ⟨rfl, rfl⟩ := h; exact ⟨trivial, hwf.2⟩
      · cases h
    · split at h
      · simp only [Tr.val, Option.some.injEq, Prod.mk.injEq] at h; obtain ⟨rfl, rfl⟩ := h; exact ⟨trivial, hwf.2⟩
      · cases h
    · exact gen h
  case h_20 => cases h
  all_goals exact gen h
theorem runT_wf {st s1 : Stt} (hwf : WF st) {i : Nat} {o : Oper} (h : (runT P call kf i o st).val = some s1) : WF s1 := by
  obtain ⟨_, x, own1, h1, rfl⟩ := runT_some h
  obtain ⟨hx, hc⟩ := opT_wf hwf h1
  obtain ⟨dep, wr, rfl, _⟩ := opT_eff h1
  refine ⟨fun y hy => ?_, hc⟩
  rcases mem_put hy with hy | rfl
  · exact AV.ok_mono upd_mono (hwf.1 y hy)
  · exact clr_ok hx
theorem stepT_wf {st s1 : Stt} (hwf : WF st) {i : Nat} (h : (stepT P call kf ops i st).val = some s1) : WF s1 := by
  cases hi : ops[i]? with
  | none => simp only [stepT, hi, Tr.val, Option.some.injEq] at h; subst h; exact hwf
  | some o =>
    rw [stepT_val hi] at h
    split at h
    · cases h
    · exact runT_wf hwf h
    · simp only [Option.some.injEq] at h; subst h
      refine ⟨fun y hy => ?_, hwf.2⟩
      rcases mem_put hy with hy | rfl
      · exact hwf.1 y hy
      · exact trivial
/-- An operation that is apart from those before it may come first. -/
theorem bubble {i : Nat} : ∀ {pre post : List Nat} {st st' : Stt}, WF st → (∀ k ∈ pre, k ≠ i ∧ indep kf ops k i = true) → (foldT P call kf ops (pre ++ i :: post) st).val = some st' →
    ∃ s1, (stepT P call kf ops i st).val = some s1 ∧ (foldT P call kf ops (pre ++ post) s1).val = some st'
  | [], post, st, st', _, _, h => Tr.bind_some h
  | k :: pre, post, st, st', hwf, hp, h => by
    obtain ⟨s1, h1, h2⟩ := Tr.bind_some h
    obtain ⟨s2, h3, h4⟩ := bubble (stepT_wf hwf h1) (fun j hj => hp j (List.mem_cons_of_mem _ hj)) h2
    obtain ⟨s1', h5, h6⟩ := comm (hp k (List.mem_cons_self)).1 hwf (hp k (List.mem_cons_self)).2 h1 h3
    exact ⟨s1', h5, by simp only [List.cons_append, foldT, Tr.val_bind, h6, Option.bind_some]; exact h4⟩
/-- What has not come up yet. -/
def rem (ops : Array Oper) (listed : Array Bool) : List Nat := (List.range ops.size).filter fun i => !listed.getD i true
def Down (ops : Array Oper) (listed : Array Bool) : Prop := ∀ i o, ops[i]? = some o → listed.getD i false = true → ∀ e ∈ o.after, Region.binds .any e = true → listed.getD e.on false = true
theorem split_at {l : List Nat} (hs : l.Pairwise (· < ·)) {i : Nat} (hi : i ∈ l) : ∃ pre post, l = pre ++ i :: post ∧ (∀ k ∈ pre, k < i) ∧ l.filter (fun j => decide (j ≠ i)) = pre ++ post := by
  obtain ⟨pre, post, rfl⟩ := List.append_of_mem hi
  rw [List.pairwise_append] at hs
  obtain ⟨_, h2, h3⟩ := hs
  have h4 := (List.pairwise_cons.1 h2).1
  refine ⟨pre, post, rfl, fun k hk => h3 k hk i (List.mem_cons_self), ?_⟩
  have f1 : pre.filter (fun j => decide (j ≠ i)) = pre := List.filter_eq_self.2 fun k hk => by
    have := h3 k hk i (List.mem_cons_self); simp; omega
  have f2 : post.filter (fun j => decide (j ≠ i)) = post := List.filter_eq_self.2 fun k hk => by
    have := h4 k hk; simp; omega
  rw [List.filter_append, List.filter_cons_of_neg (by simp), f1, f2]
theorem rem_sorted (ops : Array Oper) (listed : Array Bool) : (rem ops listed).Pairwise (· < ·) := List.Pairwise.filter _ List.pairwise_lt_range
theorem mem_rem {listed : Array Bool} {i : Nat} : i ∈ rem ops listed ↔ i < ops.size ∧ listed.getD i true = false := by
  simp [rem, List.mem_filter]
theorem rem_set {listed : Array Bool} {i : Nat} (hl : i < listed.size) : rem ops (listed.setIfInBounds i true) = (rem ops listed).filter (fun j => decide (j ≠ i)) := by
  unfold rem
  rw [List.filter_filter]
  refine List.filter_congr fun j _ => ?_
  by_cases e : j = i
  · subst e; simp [hl]
  · have : (listed.setIfInBounds i true).getD j true = listed.getD j true := getD_set_ne true (fun h => e h.symm)
    rw [this]; simp [e]
theorem getD_flip {listed : Array Bool} {i : Nat} (hl : i < listed.size) : listed.getD i true = listed.getD i false := by
  simp [hl]
theorem cert_spec {A : List Nat} (h : certOk ops A = true) {listed : Array Bool} (hd : Down ops listed) : ∀ (i : Nat) (o : Oper), ops[i]? = some o → (∀ e ∈ o.after, Region.binds .any e = true → listed.getD e.on false = true) →
    ∀ k, k < ops.size → (A.getD i 0).testBit k = true → listed.getD k false = true := by
  intro i
  induction i using Nat.strongRecOn with
  | _ i ih =>
    intro o ho hall k hk hb
    have hi : i < ops.size := (Array.getElem?_eq_some_iff.1 ho).1
    have h1 := (List.all_eq_true.1 ((List.all_eq_true.1 h) i (List.mem_range.2 hi))) k (List.mem_range.2 hk)
    rw [hb, ho] at h1
    simp only [Bool.not_true, Bool.false_or, List.any_eq_true, Bool.and_eq_true, Bool.or_eq_true, decide_eq_true_eq, beq_iff_eq] at h1
    obtain ⟨e, he, ⟨hbind, hlt⟩, h2⟩ := h1
    have hel := hall e (by simpa using he) hbind
    rcases h2 with h2 | h2
    · rw [← h2]; exact hel
    · have heo : ∃ o', ops[e.on]? = some o' := ⟨_, Array.getElem?_eq_getElem (by omega)⟩
      obtain ⟨o', ho'⟩ := heo
      exact ih e.on hlt o' ho' (hd e.on o' ho' hel) k hk h2
end
section
variable {P : Program} {call : CallT} {ops : Array Oper} {kf : Md} {w0 : World} {Q : Exit → Act → World → Prop}
theorem Rep.wf {ρ : Nat → Nat} {st : Stt} {a : Act} {w : World} (r : RepS w0 ρ st a w) : WF st := ⟨r.okT, r.okC⟩
theorem draw_any (hc : CallOK P call) {A : List Nat} (he : edgesOk ops = true) (hcert : certOk ops A = true) (hpair : pairsOk kf ops A = true) {st' : Stt} (hQ : ∀ ρ' a' w', RepS w0 ρ' st' a' w' → Q .normal a' w') :
    ∀ (fuel : Nat) (listed : Array Bool) (st : Stt) (ρ : Nat → Nat) (a : Act) (w : World), listed.size = ops.size → (rem ops listed).length ≤ fuel → Down ops listed →
      (foldT P call kf ops (rem ops listed) st).val = some st' → RepS w0 ρ st a w → wpAny P .any ops Q fuel listed a w := by
  intro fuel
  have stuck : ∀ (listed : Array Bool) (st : Stt) (ρ : Nat → Nat) (a : Act) (w : World), listed.size = ops.size → (foldT P call kf ops (rem ops listed) st).val = some st' → RepS w0 ρ st a w → Region.ready .any ops listed = [] → rem ops listed = [] ∧ Q .normal a w := by
    intro listed st ρ a w hsz h r hr
    have hrem : rem ops listed = [] := by
      cases hl : rem ops listed with
      | nil => rfl
      | cons i0 rest =>
        exfalso
        have hi0 : i0 ∈ rem ops listed := by rw [hl]; exact List.mem_cons_self
        obtain ⟨hlt, hun⟩ := mem_rem.1 hi0
        have hmin : ∀ j ∈ rem ops listed, i0 ≤ j := fun j hj => by
          rw [hl] at hj
          rcases List.mem_cons.1 hj with e | hj
          · omega
          · have := rem_sorted ops listed
            rw [hl] at this
            have := (List.pairwise_cons.1 this).1 j hj
            omega
        have : i0 ∈ Region.ready .any ops listed := mem_ready.2 ⟨hun, ops[i0], Array.getElem?_eq_getElem hlt, fun e hee hb => by
          have h1 := (List.all_eq_true.1 he) i0 (List.mem_range.2 hlt)
          rw [Array.getElem?_eq_getElem hlt] at h1
          have h2 := (List.all_eq_true.1 h1) e (by simpa using hee)
          rw [hb] at h2
          simp only [Bool.not_true, Bool.false_or, decide_eq_true_eq] at h2
          by_cases hle : listed.getD e.on false = true
          · exact hle
          · exfalso
            have : e.on ∈ rem ops listed := mem_rem.2 ⟨by omega, by rw [getD_flip (by omega)]; simpa using hle⟩
            have := hmin _ this
            omega⟩
        rw [hr] at this
        cases this
    rw [hrem] at h
    simp only [foldT, Tr.val, Option.some.injEq] at h
    subst h
    exact ⟨hrem, hQ ρ a w r⟩
  induction fuel with
  | zero =>
    intro listed st ρ a w hsz hf hd h r
    have hrem : rem ops listed = [] := List.length_eq_zero_iff.1 (by omega)
    have hr : Region.ready .any ops listed = [] := by
      cases hl : Region.ready .any ops listed with
      | nil => rfl
      | cons i rest =>
        exfalso
        have hi : i ∈ Region.ready .any ops listed := by rw [hl]; exact List.mem_cons_self
        obtain ⟨h0, o, ho, _⟩ := mem_ready.1 hi
        have : i ∈ rem ops listed := mem_rem.2 ⟨(Array.getElem?_eq_some_iff.1 ho).1, h0⟩
        rw [hrem] at this
        cases this
    exact ⟨hr, (stuck listed st ρ a w hsz h r hr).2⟩
  | succ fuel ih =>
    intro listed st ρ a w hsz hf hd h r
    refine ⟨fun hr => (stuck listed st ρ a w hsz h r hr).2, fun i hi => ?_⟩
    obtain ⟨h0, o, ho, hall⟩ := mem_ready.1 hi
    have hlt : i < ops.size := (Array.getElem?_eq_some_iff.1 ho).1
    have him : i ∈ rem ops listed := mem_rem.2 ⟨hlt, h0⟩
    obtain ⟨pre, post, hsplit, hpre, hfil⟩ := split_at (rem_sorted ops listed) him
    have hind : ∀ k ∈ pre, k ≠ i ∧ indep kf ops k i = true := fun k hk => by
      have hki := hpre k hk
      refine ⟨by omega, ?_⟩
      have h1 := (List.all_eq_true.1 ((List.all_eq_true.1 hpair) i (List.mem_range.2 hlt))) k (List.mem_range.2 hki)
      simp only [Bool.or_eq_true] at h1
      refine h1.resolve_left fun hb => ?_
      have hkl := cert_spec hcert hd i o ho hall k (by omega) hb
      have hkr : k ∈ rem ops listed := by rw [hsplit]; exact List.mem_append_left _ hk
      have := (mem_rem.1 hkr).2
      rw [getD_flip (by omega), hkl] at this
      cases this
    rw [hsplit] at h
    obtain ⟨s1, h1, h2⟩ := bubble r.wf hind h
    refine stepT_sound hc h1 r fun ρ' a' w' r' => ih (listed.setIfInBounds i true) s1 ρ' a' w' (by simpa using hsz) ?_ ?_ ?_ r'
    · rw [rem_set (by omega), hfil]
      rw [hsplit] at hf
      simp only [List.length_append, List.length_cons] at hf ⊢
      omega
    · intro j oj hoj hj e hee hb
      by_cases e' : i = j
      · subst e'
        rw [ho] at hoj; cases hoj
        exact getD_set_true (hall e hee hb)
      · rw [getD_set_ne false e'] at hj
        exact getD_set_true (hd j oj hoj hj e hee hb)
    · rw [rem_set (by omega), hfil]; exact h2
theorem rem_all (ops : Array Oper) : rem ops (Array.replicate ops.size false) = List.range ops.size := by
  unfold rem
  exact List.filter_eq_self.2 fun i hi => by simp [List.mem_range.1 hi]
theorem region_sound (hm : P.follows .mixedOrders = true) (hc : CallOK P call) {id : Nat} {draw : Bool} (hok : (!draw || drawOk kf ops) = true) {st st' : Stt} {ρ : Nat → Nat} {a : Act} {w : World}
    (h : (foldT P call kf ops (List.range ops.size) st).val = some st') (r : RepS w0 ρ st a w) (hQ : ∀ ρ' a' w', RepS w0 ρ' st' a' w' → Q .normal a' w') : (Code.region id ops draw).wp P Q a w := by
  cases draw with
  | false => exact wp_region (foldT_sound hc h r hQ)
  | true =>
    simp only [Bool.not_true, Bool.false_or, drawOk, Bool.and_eq_true] at hok
    obtain ⟨⟨he, h1⟩, h2⟩ := hok
    refine wp_region_any hm (draw_any hc he h1 h2 hQ ops.size _ st ρ a _ (by simp) ?_ ?_ ?_ (r.grow ((Ext.refl w).drew)))
    · rw [rem_all]; simp
    · intro i o ho hl
      have hlt : i < ops.size := (Array.getElem?_eq_some_iff.1 ho).1
      simp [hlt] at hl
    · rw [rem_all]; exact h
end
end Go.Proofs.Ythgmacoljkljfaa
