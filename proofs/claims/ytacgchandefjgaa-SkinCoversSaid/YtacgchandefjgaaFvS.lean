/-
  The evaluator is right: a region, merged. No program is named here.
-/
import Derived.Test.YtacgchandefjgaaFvR
namespace Go.Proofs.Ytacgchandefjgaa
open Go
section
variable {P : Program} {call : CallT} {icall : ICallT} {On : FuncId → Bool} {ops : Array Oper} {kf : Md} {w0 : World} {fr0 : Nat → Prop}
/-- A merged state and the state that it stands for: equal, or junk, or with its flags down. -/
def Mgd (ops : Array Oper) (pd is : List Nat) (s s1 : Stt) : Prop := s.own = s1.own ∧ s.nx = s1.nx ∧ s.tm.length = s1.tm.length ∧
  ∀ (j : Nat) (x : AV), s.tm[j]? = some x → ∃ y, s1.tm[j]? = some y ∧ (AV.le x y ∨ (x = y.clr ∧ (∀ k, y ≠ .one (.v k undef)) ∧ pd.contains j = true ∧ j ∈ dstsOf ops is))
theorem mergeR_le {pd is : List Nat} {st s : Stt} {dec dec' : Dec} (hd : dec.Ok st.tm) (h : (mergeR P On pd ops is st dec (foldD P call icall On kf ops is st dec)).val = some (s, dec')) :
    ∃ s1, (foldT P call icall On kf ops is st).val = some s1 ∧ dec'.Ok s.tm ∧ Mgd ops pd is s s1 := by
  have plain : (foldD P call icall On kf ops is st dec).val = some (s, dec') → ∃ s1, (foldT P call icall On kf ops is st).val = some s1 ∧ dec'.Ok s.tm ∧ Mgd ops pd is s s1 := fun h => by
    obtain ⟨h1, h2⟩ := foldD_val hd h
    exact ⟨s, h1, h2, rfl, rfl, rfl, fun j x hx => ⟨x, hx, .inl (AV.le_rfl x)⟩⟩
  generalize ht : foldD P call icall On kf ops is st dec = t at h plain
  have merged : stillOf P On ops is = true → (∃ r, t.val = some r) → (⟨mergeTm pd t (dstsOf ops is) st.tm, st.own, st.nx⟩, dec.drops (dstsOf ops is)) = (s, dec') → ∃ s1, (foldT P call icall On kf ops is st).val = some s1 ∧ dec'.Ok s.tm ∧ Mgd ops pd is s s1 := by
    rintro hst ⟨⟨s1, d1⟩, hv⟩ he
    obtain ⟨h1, h2⟩ := foldD_val hd (by rw [ht]; exact hv)
    obtain ⟨a1, a2, a3, a4⟩ := foldT_same (all := is) (fun _ h => h) h1
    simp only [Prod.mk.injEq] at he
    obtain ⟨rfl, rfl⟩ := he
    have hm := @mergeTm_at pd t (dstsOf ops is) st.tm
    refine ⟨s1, h1, ?_, (a3 hst).symm, a4.symm, by rw [hm.1, a1], ?_⟩
    · intro d c hl x hx
      obtain ⟨h3, h4⟩ := Dec.look_drops hl
      rcases hm.2 d with ⟨h5, _⟩ | ⟨_, h5, _⟩ | h5
      · rw [h5] at hx; exact hd d c h4 x hx
      · exact absurd h5 h3
      · have : (mergeTm pd t (dstsOf ops is) st.tm)[d]? = none := List.getElem?_eq_none_iff.2 (by rw [hm.1]; exact h5)
        rw [this] at hx; cases hx
    · intro j x hx
      rcases hm.2 j with ⟨h5, h6⟩ | ⟨h5, h7, h6⟩ | h5
      · simp only at hx
        rw [h5, ← a2 j h6] at hx
        exact ⟨x, hx, .inl (AV.le_rfl x)⟩
      · simp only at hx
        rw [h6] at hx
        simp only [Option.some.injEq] at hx; subst hx
        have hlt : j < s1.tm.length := by omega
        have hy := List.getElem?_eq_getElem hlt
        refine ⟨_, hy, ?_⟩
        unfold mergedAt
        cases hpd : pd.contains j with
        | false => exact .inl (.inl rfl)
        | true =>
          cases hmt : mergeT j t with
          | none => exact .inl (.inl rfl)
          | some y =>
            obtain ⟨z, hz, hmg⟩ := mergeT_val hmt hv
            rw [hy] at hz
            simp only [Option.some.injEq] at hz
            rw [hz]
            rcases hmg with e | ⟨e, hn⟩
            · exact .inl (.inr e)
            · exact .inr ⟨e, hn, rfl, h7⟩
      · have : (mergeTm pd t (dstsOf ops is) st.tm)[j]? = none := List.getElem?_eq_none_iff.2 (by rw [hm.1]; exact h5)
        simp only at hx
        rw [this] at hx; cases hx
  unfold mergeR at h
  split at h
  · split at h
    · rename_i hst hdd
      split at h
      · rename_i hnb
        exact merged hst (noBad_val hnb) (ret_some h)
      · obtain ⟨hb, h'⟩ := Tr.ite_bad (kn := false) (show (Tr.ite false _ _ _).val = some (s, dec') from h)
        exact merged hst (okT_val hb) (ret_some h')
    · exact plain h
  · exact plain h
theorem AV.is_clr {own : Own} {ρ : Nat → Option Nat} {fr : Nat → Prop} {w : World} {x : AV} {u : Value} (h : x.is own ρ fr w u) : x.clr.is own ρ fr w u := clr_is (b := true) h
theorem AV.keys_clr (x : AV) : x.clr.keys = x.keys := clr_keys true x
theorem rep_mgd {ρ : Nat → Option Nat} {fr : Nat → Prop} {pd is : List Nat} {s s1 : Stt} {a : Act} {w : World} (h : Mgd ops pd is s s1) (r : RepS w0 fr0 ρ fr s1 a w) : RepS w0 fr0 ρ fr s a w := by
  obtain ⟨h1, h2, h3, h4⟩ := h
  have hr : RepS w0 fr0 ρ fr ⟨s1.tm, s.own, s.nx⟩ a w := by rw [h1]; exact r
  refine { hr with len := ?_, tmp := ?_, okT := ?_ }
  · rw [hr.len]; exact h3.symm
  · intro t x hx
    obtain ⟨y, hy, hxy⟩ := h4 t x hx
    obtain ⟨u, hu, hyu⟩ := hr.tmp t y hy
    rcases hxy with (e | e) | ⟨e, _⟩
    · subst e; exact ⟨u, hu, trivial⟩
    · subst e; exact ⟨u, hu, hyu⟩
    · subst e; exact ⟨u, hu, AV.is_clr hyu⟩
  · intro x hx
    obtain ⟨j, hj⟩ := List.mem_iff_getElem?.1 hx
    obtain ⟨y, hy, hxy⟩ := h4 j x hj
    rcases hxy with (e | e) | ⟨e, _⟩
    · subst e; exact junk_ok
    · subst e; exact hr.okT x (List.mem_of_getElem? hy)
    · subst e; rw [AV.keys_clr]; exact hr.okT y (List.mem_of_getElem? hy)
/-- Where what depends on a test is taken as not known, its flags say so. -/
def Flagged (st : Stt) (d : Nat) : Prop := ∀ y, st.tm[d]? = some y → y.clr = y ∨ ∃ k, y = .one (.v k undef)
theorem stepT_flags (hfg : kf.fg = true) {pd : List Nat} {i : Nat} {st s : Stt} (ht : picksOnly pd ops i = true) (h : (stepT P call icall On kf ops i st).val = some s) {d : Nat} (hpd : pd.contains d = true) :
    (Flagged st d → Flagged s d) ∧ ((ops[i]?).bind (·.dst) = some d → Flagged s d) := by
  cases hi : ops[i]? with
  | none =>
    simp only [stepT, hi] at h
    have := ret_some h; subst this
    exact ⟨id, fun h => by cases h⟩
  | some o =>
    unfold picksOnly at ht
    rw [hi] at ht
    simp only [Bool.or_eq_true] at ht
    have key : ∀ (x : AV), (o.dst = some d → x.clr = x ∨ ∃ k, x = .one (.v k undef)) → s.tm = putL st.tm o.dst x → (Flagged st d → Flagged s d) ∧ ((some o).bind (·.dst) = some d → Flagged s d) := by
      intro x hx he
      have at' : Flagged st d ∨ o.dst = some d → Flagged s d := by
        intro hd y hk
        rw [he] at hk
        cases hdst : o.dst with
        | none =>
          rw [hdst] at hk hd
          rcases hd with hd | hd
          · exact hd y hk
          · cases hd
        | some e =>
          rw [hdst] at hk hd hx
          simp only [putL, List.getElem?_set] at hk
          split at hk
          · rename_i hed
            split at hk
            · simp only [Option.some.injEq] at hk; subst hk; exact hx (by rw [hed])
            · cases hk
          · rename_i hne
            rcases hd with hd | hd
            · exact hd y hk
            · simp only [Option.some.injEq] at hd; exact absurd hd hne
      exact ⟨fun hd => at' (.inl hd), fun hd => at' (.inr hd)⟩
    rw [stepT_val hi] at h
    split at h
    · cases h
    · obtain ⟨x, own1, h1, rfl⟩ := runT_some h
      refine key x (fun hod => ?_) rfl
      have htest : isPick o.op = true := by
        rcases ht with h1 | h1
        · exact h1
        · rw [hod] at h1; simp only [Bool.not_eq_true'] at h1; rw [hpd] at h1; cases h1
      left
      unfold runE at h1
      cases ho : o.op with
      | pick c y z =>
        rw [ho] at h1
        simp only at h1
        split at h1
        · rcases Tr.val_ite_some h1 with ⟨_, h'⟩ | ⟨_, h'⟩ <;> (have := ret_some h'; simp only [Prod.mk.injEq] at this; obtain ⟨rfl, _⟩ := this; rw [hfg]; exact AV.clr_clr _)
        · cases h1
      | _ => rw [ho] at htest; cases htest
    · simp only [Option.some.injEq] at h; subst h
      exact key undefA (fun _ => .inr ⟨true, rfl⟩) rfl
theorem foldT_flags (hfg : kf.fg = true) {pd : List Nat} {d : Nat} (hpd : pd.contains d = true) : ∀ {is : List Nat} {st s : Stt}, is.all (picksOnly pd ops) = true → (foldT P call icall On kf ops is st).val = some s →
    (Flagged st d → Flagged s d) ∧ (d ∈ dstsOf ops is → Flagged s d)
  | [], st, s, _, h => by
    have := ret_some h; subst this
    exact ⟨id, fun hd => by simp [dstsOf] at hd⟩
  | i :: is, st, s, ht, h => by
    simp only [List.all_cons, Bool.and_eq_true] at ht
    obtain ⟨s1, h1, h2⟩ := Tr.bind_some h
    obtain ⟨a1, a2⟩ := stepT_flags hfg ht.1 h1 hpd
    obtain ⟨b1, b2⟩ := foldT_flags hfg hpd ht.2 h2
    refine ⟨fun hd => b1 (a1 hd), fun hd => ?_⟩
    simp only [dstsOf, List.filterMap_cons] at hd
    cases hdi : (ops[i]?).bind (·.dst) with
    | none => rw [hdi] at hd; exact b2 hd
    | some e =>
      rw [hdi] at hd
      rcases List.mem_cons.1 hd with e' | hd
      · subst e'; exact b1 (a2 hdi)
      · exact b2 hd
theorem mergeR_seg (hfg : kf.fg = true) {pd is : List Nat} (ht : is.all (picksOnly pd ops) = true) {st s : Stt} {dec dec' : Dec} (hd : dec.Ok st.tm) (h : (mergeR P On pd ops is st dec (foldD P call icall On kf ops is st dec)).val = some (s, dec')) :
    ∃ s1, (foldT P call icall On kf ops is st).val = some s1 ∧ dec'.Ok s.tm ∧ Le s s1 := by
  obtain ⟨s1, h1, h2, e1, e2, e3, e4⟩ := mergeR_le hd h
  refine ⟨s1, h1, h2, e1, e2, e3, fun j x hx => ?_⟩
  obtain ⟨y, hy, hxy⟩ := e4 j x hx
  refine ⟨y, hy, ?_⟩
  rcases hxy with hxy | ⟨e, hn, hpd, hm⟩
  · exact hxy
  · rcases (foldT_flags hfg hpd ht h1).2 hm y hy with hf | ⟨k, hk⟩
    · exact .inr (by rw [e, hf])
    · exact absurd hk (hn k)
theorem spanPick_eq {d : Nat} : ∀ {l a b : List Nat}, spanPick ops d l = some (a, b) → l = a ++ b
  | [], _, _, h => by cases h
  | i :: r, a, b, h => by
    simp only [spanPick] at h
    split at h
    · simp only [Option.some.injEq, Prod.mk.injEq] at h
      obtain ⟨rfl, rfl⟩ := h; rfl
    · split at h
      · rename_i a' b' h'
        simp only [Option.some.injEq, Prod.mk.injEq] at h
        obtain ⟨rfl, rfl⟩ := h
        rw [spanPick_eq h']; rfl
      · cases h
theorem segD_val (hfg : kf.fg = true) : ∀ {n : Nat} {is : List Nat} {st s : Stt} {dec dec' : Dec}, dec.Ok st.tm → (segD P call icall On kf ops n is st dec).val = some (s, dec') → ∃ s1, (foldT P call icall On kf ops is st).val = some s1 ∧ Le s s1 ∧ dec'.Ok s.tm
  | 0, is, st, s, dec, dec', hd, h => by
    obtain ⟨h1, h2⟩ := foldD_val hd h
    exact ⟨s, h1, Le.refl s, h2⟩
  | n + 1, [], st, s, dec, dec', hd, h => by
    have := ret_some h
    simp only [Prod.mk.injEq] at this
    obtain ⟨rfl, rfl⟩ := this
    exact ⟨st, rfl, Le.refl st, hd⟩
  | n + 1, i :: r, st, s, dec, dec', hd, h => by
    have step : ∀ {q : Stt × Dec}, (stepD P call icall On kf ops i st dec).val = some q → (segD P call icall On kf ops n r q.1 q.2).val = some (s, dec') → ∃ s1, (foldT P call icall On kf ops (i :: r) st).val = some s1 ∧ Le s s1 ∧ dec'.Ok s.tm := by
      intro q h1 h2
      obtain ⟨h3, h4⟩ := stepD_val hd (s := q.1) (dec' := q.2) h1
      obtain ⟨s1, h5, h6, h7⟩ := segD_val hfg h4 h2
      exact ⟨s1, by simp only [foldT, Tr.val_bind, h3, Option.bind_some]; exact h5, h6, h7⟩
    simp only [segD] at h
    split at h
    · rename_i seg rest hspan
      have hsp : i :: r = seg ++ rest := by
        split at hspan
        · exact spanPick_eq hspan
        · cases hspan
      split at h
      · rename_i hall
        obtain ⟨⟨sm, dm⟩, h1, h2⟩ := Tr.bind_some h
        obtain ⟨s1, h3, h4, h5⟩ := mergeR_seg hfg hall hd h1
        obtain ⟨s2, h6, h7, h8⟩ := segD_val hfg h4 h2
        obtain ⟨s3, h9, h10⟩ := foldT_le h5 h6
        exact ⟨s3, by rw [hsp]; exact foldT_append h3 h9, h7.trans h10, h8⟩
      · obtain ⟨q, h1, h2⟩ := Tr.bind_some h
        exact step h1 h2
    · obtain ⟨q, h1, h2⟩ := Tr.bind_some h
      exact step h1 h2
/-- A region's evaluation tells what is so at its end. -/
theorem regionT_val {st s : Stt} {dec dec' : Dec} (hwf : WF st) (hd : dec.Ok st.tm) (h : (regionT P call icall On kf ops st dec).val = some (s, dec')) :
    ∃ s1, (foldT P call icall On kf ops (List.range ops.size) st).val = some s1 ∧ dec'.Ok s.tm ∧ ∀ ρ fr a w, RepS w0 fr0 ρ fr s1 a w → RepS w0 fr0 ρ fr s a w ∧ Grow s1.own ρ fr w s.own ρ fr w := by
  unfold regionT at h
  split at h
  · obtain ⟨s1, h1, h2, h3⟩ := mergeR_le hd h
    exact ⟨s1, h1, h2, fun ρ fr a w r => ⟨rep_mgd h3 r, by rw [h3.1]; exact Grow.refl _ _ _ _⟩⟩
  · rename_i hfg
    obtain ⟨s1, h1, h2, h3⟩ := segD_val hfg hd h
    obtain ⟨s2, h4, h5⟩ := orderFor_val hwf h1
    refine ⟨s2, h4, h3, fun ρ fr a w r => ?_⟩
    obtain ⟨r2, g2⟩ := rep_sim r h5
    exact ⟨rep_le h2 r2, by rw [h2.1]; exact g2⟩
end
end Go.Proofs.Ytacgchandefjgaa
