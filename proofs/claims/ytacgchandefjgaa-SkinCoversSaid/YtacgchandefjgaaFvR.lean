/-
  The evaluator is right: tests that were met, values merged. No program is named here.
-/
import Derived.Test.YtacgchandefjgaaFvQ
import Derived.LoopN
namespace Go.Proofs.Ytacgchandefjgaa
open Go
section
variable {P : Program} {call : CallT} {icall : ICallT} {On : FuncId → Bool} {ops : Array Oper} {kf : Md}
/-- The tests that were met agree with what the temporaries hold. -/
def Dec.Ok (dec : Dec) (tm : List AV) : Prop := ∀ d b, dec.look d = some b → ∀ x, tm[d]? = some x → ∃ kn, x = .one (.v kn (.bool b))
theorem Dec.look_drop {e : Nat} : ∀ {dec : Dec} {d : Nat} {b : Bool}, (dec.drop (some e)).look d = some b → d ≠ e ∧ dec.look d = some b
  | [], _, _, h => by simp [Dec.drop, Dec.look] at h
  | (d', b') :: r, d, b, h => by
    have ih := @Dec.look_drop e r d b
    simp only [Dec.drop] at ih
    simp only [Dec.drop, List.filter_cons] at h
    by_cases he : d' = e
    · subst he
      simp only [beq_self_eq_true, Bool.not_true, Bool.false_eq_true, if_false] at h
      obtain ⟨h1, h2⟩ := ih h
      refine ⟨h1, ?_⟩
      simp only [Dec.look]
      rw [show (d' == d) = false by simp; omega]
      exact h2
    · rw [if_pos (by simp [he])] at h
      simp only [Dec.look] at h ⊢
      cases hd : d' == d with
      | true =>
        rw [hd] at h
        simp only [beq_iff_eq] at hd
        exact ⟨by omega, h⟩
      | false => rw [hd] at h; exact ih h
theorem Dec.Ok.drop {dec : Dec} {tm : List AV} (h : dec.Ok tm) (dst : Option Tmp) (x : AV) : (dec.drop dst).Ok (putL tm dst x) := by
  cases dst with
  | none => exact h
  | some e =>
    intro d b hl y hy
    obtain ⟨hne, hl⟩ := Dec.look_drop hl
    simp only [putL, List.getElem?_set_ne (Ne.symm hne)] at hy
    exact h d b hl y hy
theorem Dec.Ok.prop {dec : Dec} {tm : List AV} (h : dec.Ok tm) (dst : Option Tmp) (y : Operand) (b : Bool) : (dec.prop tm dst y).Ok (putL tm dst (clrIf b (opd tm y))) := by
  unfold Dec.prop
  split
  · rename_i d u
    split
    · rename_i c v hc hu
      intro e b' hl z hz
      simp only [Dec.look] at hl
      cases hde : d == e with
      | true =>
        rw [hde] at hl
        simp only [Option.some.injEq] at hl; subst hl
        simp only [beq_iff_eq] at hde; subst hde
        simp only [putL, List.getElem?_set] at hz
        split at hz
        · split at hz
          · simp only [Option.some.injEq] at hz; subst hz
            simp only [opd, List.getD_eq_getElem?_getD, hu, Option.getD_some]
            obtain ⟨kn, rfl⟩ := h u c hc v hu
            cases b
            · exact ⟨kn, rfl⟩
            · exact ⟨false, rfl⟩
          · cases hz
        · rename_i hne; exact absurd trivial hne
      | false =>
        rw [hde] at hl
        exact h.drop (some d) _ e b' hl z hz
    · exact h.drop _ _
  · rename_i d c
    intro e b' hl z hz
    simp only [Dec.look] at hl
    cases hde : d == e with
    | true =>
      rw [hde] at hl
      simp only [Option.some.injEq] at hl; subst hl
      simp only [beq_iff_eq] at hde; subst hde
      simp only [putL, List.getElem?_set] at hz
      split at hz
      · split at hz
        · simp only [Option.some.injEq] at hz; subst hz
          cases b
          · exact ⟨true, rfl⟩
          · exact ⟨false, rfl⟩
        · cases hz
      · rename_i hne; exact absurd trivial hne
    | false =>
      rw [hde] at hl
      exact h.drop (some d) _ e b' hl z hz
  · exact h.drop _ _
theorem test_val {α : Type} {dec : Dec} {tm : List AV} (h : dec.Ok tm) {d : Nat} {kn b : Bool} (hd : tm[d]? = some (.one (.v kn (.bool b)))) {f : Bool → Dec → Tr α} {r : α} (hv : (test dec d kn b f).val = some r) :
    ∃ dec', dec'.Ok tm ∧ (f b dec').val = some r := by
  have cons : Dec.Ok ((d, b) :: dec) tm := fun e c hl y hy => by
    simp only [Dec.look] at hl
    cases hde : d == e with
    | true =>
      rw [hde] at hl
      simp only [Option.some.injEq] at hl; subst hl
      simp only [beq_iff_eq] at hde; subst hde
      rw [hd] at hy
      simp only [Option.some.injEq] at hy; subst hy
      exact ⟨kn, rfl⟩
    | false => rw [hde] at hl; exact h e c hl y hy
  unfold test at hv
  split at hv
  · rename_i c hc
    obtain ⟨_, he⟩ := h d c hc _ hd
    simp only [AV.one.injEq, CV.v.injEq, Value.bool.injEq] at he
    obtain ⟨_, rfl⟩ := he
    exact ⟨dec, h, hv⟩
  · split at hv
    · exact ⟨dec, h, hv⟩
    · cases b
      · exact ⟨_, cons, hv⟩
      · exact ⟨_, cons, hv⟩
theorem runD_val {i : Nat} {o : Oper} {st s : Stt} {dec dec' : Dec} (hd : dec.Ok st.tm) (h : (runD P call icall On kf i o st dec).val = some (s, dec')) : (runT P call icall On kf i o st).val = some s ∧ dec'.Ok s.tm := by
  unfold runD at h
  split at h
  · rename_i t x y ho
    split at h
    · rename_i kn b hb
      obtain ⟨dec1, hd1, h⟩ := test_val hd hb h
      have ht : opd st.tm (.tmp t) = .one (.v kn (.bool b)) := by simp [opd, hb]
      cases b with
      | true =>
        have := ret_some h
        simp only [Prod.mk.injEq] at this
        obtain ⟨rfl, rfl⟩ := this
        exact ⟨runT_of (by unfold runE; rw [ho]; simp only [ht, Tr.val_ite]; rfl), hd1.prop _ _ _⟩
      | false =>
        have := ret_some h
        simp only [Prod.mk.injEq] at this
        obtain ⟨rfl, rfl⟩ := this
        exact ⟨runT_of (by unfold runE; rw [ho]; simp only [ht, Tr.val_ite]; rfl), hd1.prop _ _ _⟩
    · cases h
  · rename_i x ho
    have := ret_some h
    simp only [Prod.mk.injEq] at this
    obtain ⟨rfl, rfl⟩ := this
    exact ⟨runT_of (by unfold runE; rw [ho]; rfl), hd.prop _ _ false⟩
  · rename_i x ho
    have := ret_some h
    simp only [Prod.mk.injEq] at this
    obtain ⟨rfl, rfl⟩ := this
    exact ⟨runT_of (by unfold runE; rw [ho]; rfl), hd.prop _ _ false⟩
  · obtain ⟨s1, h1, h2⟩ := Tr.bind_some h
    have := ret_some h2
    simp only [Prod.mk.injEq] at this
    obtain ⟨rfl, rfl⟩ := this
    refine ⟨h1, ?_⟩
    obtain ⟨x, own1, _, rfl⟩ := runT_some h1
    exact hd.drop _ _
theorem stepD_val {i : Nat} {st s : Stt} {dec dec' : Dec} (hd : dec.Ok st.tm) (h : (stepD P call icall On kf ops i st dec).val = some (s, dec')) : (stepT P call icall On kf ops i st).val = some s ∧ dec'.Ok s.tm := by
  unfold stepD at h
  split at h
  · rename_i hi
    have := ret_some h
    simp only [Prod.mk.injEq] at this
    obtain ⟨rfl, rfl⟩ := this
    exact ⟨by simp only [stepT, hi]; rfl, hd⟩
  · rename_i o hi
    rw [stepT_val hi]
    unfold gd
    split at h
    · rename_i hg
      rw [hg]
      exact runD_val hd h
    · rename_i j want hg
      rw [hg]
      simp only
      split at h
      · rename_i hdd
        rw [hdd]
        have := ret_some h
        simp only [Prod.mk.injEq] at this
        obtain ⟨rfl, rfl⟩ := this
        exact ⟨rfl, hd.drop _ _⟩
      · rename_i d hdd
        rw [hdd]
        simp only
        split at h
        · rename_i kn b hb
          rw [hb]
          simp only
          obtain ⟨dec1, hd1, h⟩ := test_val hd hb h
          split at h
          · rename_i hw
            rw [hw]
            exact runD_val hd1 h
          · rename_i hw
            rw [hw]
            have := ret_some h
            simp only [Prod.mk.injEq] at this
            obtain ⟨rfl, rfl⟩ := this
            exact ⟨rfl, hd1.drop _ _⟩
        · cases h
        · rename_i n1 n2
          have := ret_some h
          simp only [Prod.mk.injEq] at this
          obtain ⟨rfl, rfl⟩ := this
          refine ⟨?_, hd.drop _ _⟩
          cases ht : st.tm[d]? with
          | none => rfl
          | some z =>
            cases z with
            | one c =>
              cases c with
              | v kn y => cases y <;> first | rfl | exact absurd ht (n1 _ _)
              | junk => exact absurd ht n2
              | _ => rfl
            | _ => rfl
theorem foldD_val : ∀ {is : List Nat} {st s : Stt} {dec dec' : Dec}, dec.Ok st.tm → (foldD P call icall On kf ops is st dec).val = some (s, dec') → (foldT P call icall On kf ops is st).val = some s ∧ dec'.Ok s.tm
  | [], st, s, dec, dec', hd, h => by
    have := ret_some h
    simp only [Prod.mk.injEq] at this
    obtain ⟨rfl, rfl⟩ := this
    exact ⟨rfl, hd⟩
  | i :: is, st, s, dec, dec', hd, h => by
    obtain ⟨⟨s1, d1⟩, h1, h2⟩ := Tr.bind_some h
    obtain ⟨h3, h4⟩ := stepD_val hd h1
    obtain ⟨h5, h6⟩ := foldD_val h4 h2
    exact ⟨by simp only [foldT, Tr.val_bind, h3, Option.bind_some]; exact h5, h6⟩
/-- What some of a region's operations leave as it was. -/
def Same (P : Program) (On : FuncId → Bool) (ops : Array Oper) (is : List Nat) (st s : Stt) : Prop := s.tm.length = st.tm.length ∧ (∀ j, j ∉ dstsOf ops is → s.tm[j]? = st.tm[j]?) ∧ (stillOf P On ops is = true → s.own = st.own) ∧ s.nx = st.nx
theorem putL_same {i : Nat} {o : Oper} (hi : ops[i]? = some o) {is : List Nat} (hm : i ∈ is) {tm : List AV} {x : AV} : (putL tm o.dst x).length = tm.length ∧ ∀ j, j ∉ dstsOf ops is → (putL tm o.dst x)[j]? = tm[j]? := by
  cases hd : o.dst with
  | none => exact ⟨rfl, fun _ _ => rfl⟩
  | some d =>
    refine ⟨by simp [putL], fun j hj => ?_⟩
    have : d ≠ j := fun e => hj (by
      subst e
      exact List.mem_filterMap.2 ⟨i, hm, by rw [hi]; exact hd⟩)
    simp only [putL, List.getElem?_set_ne this]
theorem runE_calm {i : Nat} {o : Oper} {ev : Operand → AV} {own own1 : Own} {nx : Nat} {x : AV} (hcalm : calm P On o.op = true) (h : (runE P call icall On kf i o ev own nx).val = some (x, own1)) : own1 = own := by
  unfold runE at h
  split at h
  · rename_i ho; rw [ho] at hcalm; cases hcalm
  · rename_i ho; rw [ho] at hcalm; cases hcalm
  · rename_i ho; rw [ho] at hcalm; cases hcalm
  · split at h
    · split at h
      · rename_i hg
        rw [hcalm] at hg
        simp at hg
      · cases h
    · split at h
      · obtain ⟨⟨y, ws⟩, h1, h2⟩ := Tr.bind_some h
        obtain ⟨_, _, h5⟩ := fin1_some h2
        have h7 := fin1_calm h2
        rw [hcalm] at h7
        simp at h7
        simp only [Prod.mk.injEq] at h5
        rw [h5.2, h7]
        rfl
      · cases h
      · cases h
theorem stepT_same {i : Nat} {is : List Nat} (hm : i ∈ is) {st s : Stt} (h : (stepT P call icall On kf ops i st).val = some s)   : Same P On ops is st s := by
  cases hi : ops[i]? with
  | none => simp only [stepT, hi] at h; have := ret_some h; subst this; exact ⟨rfl, fun _ _ => rfl, fun _ => rfl, rfl⟩
  | some o =>
    rw [stepT_val hi] at h
    split at h
    · cases h
    · obtain ⟨x, own1, h0, rfl⟩ := runT_some h
      obtain ⟨h1, h2⟩ := putL_same hi hm (tm := st.tm) (x := x)
      refine ⟨h1, h2, fun hst => ?_, rfl⟩
      have := (List.all_eq_true.1 hst) i hm
      rw [hi] at this
      simp only [Bool.and_eq_true, Bool.not_eq_true'] at this
      by_cases hcalm : calm P On o.op = true
      · exact runE_calm hcalm h0
      replace this : wrOp o.op = false ∧ newOp o.op = false := ⟨by
        have := this.1
        rw [Bool.not_eq_true] at hcalm
        rw [hcalm] at this
        simpa using this, by
        have := this.2
        rw [Bool.not_eq_true] at hcalm
        rw [hcalm] at this
        simpa using this⟩
      rcases runE_eff h0 with ⟨_, q, hq⟩ | ⟨ws, rfl, e⟩
      · obtain ⟨f, args, ats, caps, ho, _⟩ := openOf_some hq
        rw [ho] at this
        cases this.1
      · have := e.nil (by unfold mayW; rw [this.1, this.2]; rfl)
        subst this; rfl
    · simp only [Option.some.injEq] at h; subst h
      obtain ⟨h1, h2⟩ := putL_same hi hm (tm := st.tm) (x := undefA)
      exact ⟨h1, h2, fun _ => rfl, rfl⟩
theorem foldT_same {all : List Nat} : ∀ {is : List Nat} {st s : Stt}, (∀ i ∈ is, i ∈ all) → (foldT P call icall On kf ops is st).val = some s → Same P On ops all st s
  | [], st, s, _, h => by have := ret_some h; subst this; exact ⟨rfl, fun _ _ => rfl, fun _ => rfl, rfl⟩
  | i :: is, st, s, hm, h => by
    obtain ⟨s1, h1, h2⟩ := Tr.bind_some h
    obtain ⟨a1, a2, a3, a4⟩ := stepT_same (hm i List.mem_cons_self) h1
    obtain ⟨b1, b2, b3, b4⟩ := foldT_same (fun j hj => hm j (List.mem_cons_of_mem _ hj)) h2
    exact ⟨b1.trans a1, fun j hj => (b2 j hj).trans (a2 j hj), fun hs => (b3 hs).trans (a3 hs), b4.trans a4⟩
theorem CV.clr_clr (c : CV) : c.clr.clr = c.clr := by cases c <;> rfl
theorem AV.clr_clr (x : AV) : x.clr.clr = x.clr := by
  cases x with
  | one c => simp [AV.clr, CV.clr_clr]
  | ag l => simp [AV.clr, CV.clr_clr]
  | tup l => simp [AV.clr, CV.clr_clr]
theorem zipCV_eq {b : Bool} {x y z : CV} (h : zipCV b x y = some z) : z = (cond b x y).clr ∧ (∀ k, x ≠ .v k undef) ∧ ∀ k, y ≠ .v k undef := by
  unfold zipCV at h
  split at h
  · simp only [Option.some.injEq] at h; subst h; exact ⟨by cases b <;> rfl, by simp [undef], by simp [undef]⟩
  · split at h
    · rename_i hk
      have hk := of_decide_eq_true hk
      simp only [Option.some.injEq] at h; subst h; subst hk; exact ⟨by cases b <;> rfl, by simp [undef], by simp [undef]⟩
    · cases h
  · simp only [Option.some.injEq] at h; subst h; exact ⟨by cases b <;> rfl, by simp [undef], by simp [undef]⟩
  · split at h
    · rename_i e
      subst e
      simp only [Option.some.injEq] at h; subst h; exact ⟨by cases b <;> rfl, by simp, by simp⟩
    · cases h
  · cases h
theorem zipCVs_eq {b : Bool} : ∀ {xs ys zs : List CV}, zipCVs b xs ys = some zs → zs = (cond b xs ys).map CV.clr
  | [], [], zs, h => by simp only [zipCVs, Option.some.injEq] at h; subst h; cases b <;> rfl
  | x :: xs, y :: ys, zs, h => by
    simp only [zipCVs] at h
    split at h
    · rename_i z zs' h1 h2
      simp only [Option.some.injEq] at h; subst h
      rw [(zipCV_eq h1).1, zipCVs_eq h2]; cases b <;> rfl
    · cases h
  | [], _ :: _, _, h => by simp [zipCVs] at h
  | _ :: _, [], _, h => by simp [zipCVs] at h
theorem zipParts_eq {b : Bool} : ∀ {xs ys zs : List (Bool × List CV)}, zipParts b xs ys = some zs → zs = (cond b xs ys).map fun q => (q.1, q.2.map CV.clr)
  | [], [], zs, h => by simp only [zipParts, Option.some.injEq] at h; subst h; cases b <;> rfl
  | x :: xs, y :: ys, zs, h => by
    simp only [zipParts] at h
    split at h
    · rename_i z zs' h0 h1 h2
      simp only [Option.some.injEq] at h; subst h
      rw [zipCVs_eq h1, zipParts_eq h2]
      have h0 := eq_of_beq h0
      cases b
      · simp [h0]
      · rfl
    · cases h
  | [], _ :: _, _, h => by simp [zipParts] at h
  | _ :: _, [], _, h => by simp [zipParts] at h
theorem zipA_eq {b : Bool} {x y z : AV} (h : zipA b x y = some z) : z = (cond b x y).clr ∧ (∀ k, x ≠ .one (.v k undef)) ∧ ∀ k, y ≠ .one (.v k undef) := by
  unfold zipA at h
  split at h
  · obtain ⟨c, hc, rfl⟩ := Option.map_eq_some_iff.1 h
    obtain ⟨h1, h2, h3⟩ := zipCV_eq hc
    exact ⟨by rw [h1]; cases b <;> rfl, fun k e => h2 k (by simpa using e), fun k e => h3 k (by simpa using e)⟩
  · obtain ⟨c, hc, rfl⟩ := Option.map_eq_some_iff.1 h
    exact ⟨by rw [zipCVs_eq hc]; cases b <;> rfl, by simp, by simp⟩
  · obtain ⟨c, hc, rfl⟩ := Option.map_eq_some_iff.1 h
    exact ⟨by rw [zipParts_eq hc]; cases b <;> rfl, by simp, by simp⟩
  · cases h
/-- Merged: as it is, or with its flags down. -/
def Mg (x y : AV) : Prop := x = y ∨ (x = y.clr ∧ ∀ k, y ≠ .one (.v k undef))
theorem Mg.zip {b : Bool} {x1 x2 z y : AV} (h : zipA b x1 x2 = some z) (hm : Mg (cond b x1 x2) y) : Mg z y := by
  obtain ⟨h1, h2, h3⟩ := zipA_eq h
  rcases hm with e | ⟨e, hn⟩
  · refine .inr ⟨by rw [h1, e], fun k e2 => ?_⟩
    cases b
    · exact h3 k (by rw [← e2, ← e]; rfl)
    · exact h2 k (by rw [← e2, ← e]; rfl)
  · exact .inr ⟨by rw [h1, e, AV.clr_clr], hn⟩
theorem mergeV_val : ∀ {t : Tr AV} {x r : AV}, mergeV t = some x → t.val = some r → Mg x r
  | .ret r', x, r, h, hr => by
    have := ret_some hr; subst this
    simp only [mergeV, Option.some.injEq] at h
    exact .inl h.symm
  | .bad _, _, _, h, _ => by simp [mergeV] at h
  | .br b t e, x, r, h, hr => by
    simp only [mergeV] at h
    split at h
    · rename_i hd
      cases b
      · have : e.val = some r := hr
        rw [deadT_val hd] at this; cases this
      · exact mergeV_val h hr
    · split at h
      · rename_i hd
        cases b
        · exact mergeV_val h hr
        · have : t.val = some r := hr
          rw [deadT_val hd] at this; cases this
      · split at h
        · rename_i y z hy hz
          refine Mg.zip h ?_
          cases b
          · exact mergeV_val hz hr
          · exact mergeV_val hy hr
        · cases h
theorem mergeF_val {t : Tr AV} {r : AV} (h : (mergeF t).val = some r) : ∃ y, t.val = some y ∧ Mg r y := by
  unfold mergeF at h
  split at h
  · split at h
    · rename_i x hx
      split at h
      · rename_i hn
        have := ret_some h; subst this
        obtain ⟨y, hy⟩ := noBad_val hn
        exact ⟨y, hy, mergeV_val hx hy⟩
      · obtain ⟨hb, h'⟩ := Tr.ite_bad (kn := false) (show (Tr.ite false _ _ _).val = some r from h)
        have := ret_some h'; subst this
        obtain ⟨y, hy⟩ := okT_val hb
        exact ⟨y, hy, mergeV_val hx hy⟩
    · exact ⟨r, h, .inl rfl⟩
  · exact ⟨r, h, .inl rfl⟩
theorem mergeT_val {d : Nat} : ∀ {t : Tr (Stt × Dec)} {x : AV} {r : Stt × Dec}, mergeT d t = some x → t.val = some r → ∃ y, r.1.tm[d]? = some y ∧ Mg x y
  | .ret r', x, r, h, hr => by
    have := ret_some hr; subst this
    exact ⟨x, h, .inl rfl⟩
  | .bad _, _, _, h, _ => by simp [mergeT] at h
  | .br b t e, x, r, h, hr => by
    simp only [mergeT] at h
    split at h
    · rename_i hd
      cases b
      · have : e.val = some r := hr
        rw [deadT_val hd] at this; cases this
      · exact mergeT_val h hr
    · split at h
      · rename_i hd
        cases b
        · exact mergeT_val h hr
        · have : t.val = some r := hr
          rw [deadT_val hd] at this; cases this
      · split at h
        · rename_i y z hy hz
          cases b
          · obtain ⟨u, h1, h2⟩ := mergeT_val hz hr
            exact ⟨u, h1, Mg.zip h h2⟩
          · obtain ⟨u, h1, h2⟩ := mergeT_val hy hr
            exact ⟨u, h1, Mg.zip h h2⟩
        · cases h
theorem mergeTm_cons (pd : List Nat) (t : Tr (Stt × Dec)) (d : Nat) (r : List Nat) (tm : List AV) : mergeTm pd t (d :: r) tm = mergeTm pd t r (tm.set d (mergedAt pd t d)) := rfl
theorem mergeTm_at {pd : List Nat} {t : Tr (Stt × Dec)} : ∀ {l : List Nat} {tm : List AV}, (mergeTm pd t l tm).length = tm.length ∧ ∀ j, (mergeTm pd t l tm)[j]? = tm[j]? ∧ j ∉ l ∨ j < tm.length ∧ j ∈ l ∧ (mergeTm pd t l tm)[j]? = some (mergedAt pd t j) ∨ tm.length ≤ j
  | [], tm => ⟨rfl, fun j => .inl ⟨rfl, by simp⟩⟩
  | d :: r, tm => by
    rw [mergeTm_cons]
    generalize hm : mergedAt pd t d = m
    obtain ⟨h1, h2⟩ := @mergeTm_at pd t r (tm.set d m)
    refine ⟨by simpa using h1, fun j => ?_⟩
    rcases h2 j with ⟨h3, h4⟩ | ⟨h3, h4, h5⟩ | h3
    · by_cases e : d = j
      · subst e
        by_cases hl : d < tm.length
        · refine .inr (.inl ⟨hl, by simp, ?_⟩)
          rw [h3, List.getElem?_set_self hl, hm]
        · exact .inr (.inr (by omega))
      · exact .inl ⟨by rw [h3, List.getElem?_set_ne e], by simp [h4]; omega⟩
    · exact .inr (.inl ⟨by simpa using h3, by simp [h4], h5⟩)
    · exact .inr (.inr (by simpa using h3))
theorem Dec.look_drops : ∀ {l : List Nat} {dec : Dec} {d : Nat} {b : Bool}, (dec.drops l).look d = some b → d ∉ l ∧ dec.look d = some b
  | [], _, _, _, h => ⟨by simp, h⟩
  | e :: l, dec, d, b, h => by
    obtain ⟨h1, h2⟩ := @Dec.look_drops l (dec.drop (some e)) d b h
    obtain ⟨h3, h4⟩ := Dec.look_drop h2
    exact ⟨by simp [h1, h3], h4⟩
end
section
variable {P : Program} {call : CallT} {icall : ICallT} {On : FuncId → Bool} {ops : Array Oper} {kf : Md} {w0 : World} {fr0 : Nat → Prop}
/-- x says what y says, or nothing. The flags may differ only as 'fl' lets them. -/
def AV.le (x y : AV) : Prop := x = AV.junk ∨ x = y
theorem AV.le_rfl (x : AV) : x.le x := .inr rfl
theorem AV.le_of {x y : AV} (h : x.le y) (hx : x ≠ AV.junk) : x = y := h.resolve_left hx
/-- st tells at most what s tells. -/
def Le (st s : Stt) : Prop := st.own = s.own ∧ st.nx = s.nx ∧ st.tm.length = s.tm.length ∧ ∀ (j : Nat) (x : AV), st.tm[j]? = some x → ∃ y, s.tm[j]? = some y ∧ AV.le x y
theorem Le.refl (s : Stt) : Le s s := ⟨rfl, rfl, rfl, fun _ x h => ⟨x, h, .inr rfl⟩⟩
theorem Le.trans {a b c : Stt} (h : Le a b) (k : Le b c) : Le a c := by
  refine ⟨h.1.trans k.1, h.2.1.trans k.2.1, h.2.2.1.trans k.2.2.1, fun j x hx => ?_⟩
  obtain ⟨y, hy, hxy⟩ := h.2.2.2 j x hx
  obtain ⟨z, hz, hyz⟩ := k.2.2.2 j y hy
  refine ⟨z, hz, ?_⟩
  rcases hxy with e | e
  · exact .inl e
  · subst e; exact hyz
theorem Le.opd {a b : Stt} (h : Le a b) (y : Operand) : (opd a.tm y).le (opd b.tm y) := by
  cases y with
  | tmp t =>
    simp only [Go.Proofs.Ytacgchandefjgaa.opd, List.getD_eq_getElem?_getD]
    cases ht : a.tm[t]? with
    | some x =>
      obtain ⟨z, hz, hxz⟩ := h.2.2.2 t x ht
      rw [hz]; exact hxz
    | none =>
      have : b.tm[t]? = none := by
        rw [List.getElem?_eq_none_iff] at ht ⊢
        rw [← h.2.2.1]; exact ht
      rw [this]; exact .inr rfl
  | const v => exact .inr rfl
  | global g => exact .inr rfl
  | func f => exact .inr rfl
theorem putL_le {a b : List AV} (hl : a.length = b.length) (h : ∀ (j : Nat) (x : AV), a[j]? = some x → ∃ y, b[j]? = some y ∧ AV.le x y) (dst : Option Tmp) {x y : AV} (hxy : x.le y) :
    (putL a dst x).length = (putL b dst y).length ∧ ∀ (j : Nat) (z : AV), (putL a dst x)[j]? = some z → ∃ u, (putL b dst y)[j]? = some u ∧ AV.le z u := by
  cases dst with
  | none => exact ⟨hl, h⟩
  | some d =>
    refine ⟨by simp [putL, hl], fun j z hz => ?_⟩
    simp only [putL] at hz ⊢
    by_cases e : d = j
    · subst e
      by_cases hlt : d < a.length
      · rw [List.getElem?_set_self hlt] at hz
        simp only [Option.some.injEq] at hz; subst hz
        exact ⟨y, List.getElem?_set_self (by rw [← hl]; exact hlt), hxy⟩
      · rw [List.getElem?_eq_none_iff.2 (by simpa using Nat.le_of_not_lt hlt)] at hz; cases hz
    · rw [List.getElem?_set_ne e] at hz ⊢
      exact h j z hz
theorem junk_ok {own : Own} : okKeys own AV.junk.keys := okKeys_nil rfl
theorem rep_le {ρ : Nat → Option Nat} {fr : Nat → Prop} {st s : Stt} {a : Act} {w : World} (h : Le st s) (r : RepS w0 fr0 ρ fr s a w) : RepS w0 fr0 ρ fr st a w := by
  obtain ⟨h1, h2, h3, h4⟩ := h
  have hr : RepS w0 fr0 ρ fr ⟨s.tm, st.own, st.nx⟩ a w := by rw [h1]; exact r
  refine { hr with len := ?_, tmp := ?_, okT := ?_ }
  · rw [hr.len]; exact h3.symm
  · intro t x hx
    obtain ⟨y, hy, hxy⟩ := h4 t x hx
    obtain ⟨u, hu, hyu⟩ := hr.tmp t y hy
    rcases hxy with e | e
    · subst e; exact ⟨u, hu, trivial⟩
    · subst e; exact ⟨u, hu, hyu⟩
  · intro x hx
    obtain ⟨j, hj⟩ := List.mem_iff_getElem?.1 hx
    obtain ⟨y, hy, hxy⟩ := h4 j x hj
    rcases hxy with e | e
    · subst e; exact junk_ok
    · subst e; exact hr.okT x (List.mem_of_getElem? hy)
theorem runE_le {i : Nat} {o : Oper} {a b : Stt} (hl : Le a b) {x : AV} {own1 : Own} (h : (runE P call icall On kf i o (opd a.tm) a.own a.nx).val = some (x, own1)) : ∃ y, (runE P call icall On kf i o (opd b.tm) b.own b.nx).val = some (y, own1) ∧ x.le y := by
  have ho1 : a.own = b.own := hl.1
  have hn1 : a.nx = b.nx := hl.2.1
  rw [← ho1, ← hn1]
  have other : o.op.operands.toList.any (fun y => (opd a.tm y).isJunk) = false → ∃ y, (runE P call icall On kf i o (opd b.tm) a.own a.nx).val = some (y, own1) ∧ x.le y := fun hj => by
    refine ⟨x, ?_, .inr rfl⟩
    rw [← h]
    congr 1
    refine (runE_congr fun y hy => ?_).symm
    refine AV.le_of (hl.opd y) fun e => ?_
    have : o.op.operands.toList.any (fun y => (opd a.tm y).isJunk) = true := List.any_eq_true.2 ⟨y, by simpa using hy, by rw [e]; rfl⟩
    rw [this] at hj; cases hj
  have h0 := h
  unfold runE at h
  split at h
  · rename_i y ho
    have := ret_some h
    simp only [Prod.mk.injEq] at this
    obtain ⟨rfl, rfl⟩ := this
    exact ⟨opd b.tm y, by unfold runE; rw [ho]; rfl, hl.opd y⟩
  · rename_i y ho
    have := ret_some h
    simp only [Prod.mk.injEq] at this
    obtain ⟨rfl, rfl⟩ := this
    exact ⟨opd b.tm y, by unfold runE; rw [ho]; rfl, hl.opd y⟩
  · rename_i c y z ho
    split at h
    · rename_i kn t ht
      have hc := AV.le_of (hl.opd c) (by rw [ht]; simp)
      rw [ht] at hc
      rcases Tr.val_ite_some h with ⟨hb, h'⟩ | ⟨hb, h'⟩ <;> (have := ret_some h'; simp only [Prod.mk.injEq] at this; obtain ⟨rfl, rfl⟩ := this; subst hb)
      · refine ⟨clrIf kf.fg (opd b.tm y), by unfold runE; rw [ho]; simp only [← hc, Tr.val_ite]; rfl, ?_⟩
        rcases hl.opd y with e | e
        · left; rw [e]; cases kf.fg <;> rfl
        · exact .inr (by rw [e])
      · refine ⟨clrIf kf.fg (opd b.tm z), by unfold runE; rw [ho]; simp only [← hc, Tr.val_ite]; rfl, ?_⟩
        rcases hl.opd z with e | e
        · left; rw [e]; cases kf.fg <;> rfl
        · exact .inr (by rw [e])
    · cases h
  · split at h
    · split at h
      · rename_i hj _
        exact other hj
      · cases h
    · split at h
      · rename_i hj _
        exact other hj
      · cases h
      · cases h
theorem runT_le {i : Nat} {o : Oper} {a b s : Stt} (hl : Le a b) (h : (runT P call icall On kf i o a).val = some s) : ∃ s', (runT P call icall On kf i o b).val = some s' ∧ Le s s' := by
  obtain ⟨x, own1, h1, rfl⟩ := runT_some h
  obtain ⟨y, h2, hxy⟩ := runE_le hl h1
  exact ⟨_, runT_of h2, rfl, hl.2.1, putL_le hl.2.2.1 hl.2.2.2 o.dst hxy⟩
theorem gd_le {o : Oper} {a b : Stt} (hl : Le a b) {c : Bool} (h : gd ops o a.tm = some c) : gd ops o b.tm = some c := by
  unfold gd at *
  cases hg : o.guard with
  | none => rw [hg] at h; exact h
  | some q =>
    obtain ⟨j, want⟩ := q
    rw [hg] at h
    simp only at h ⊢
    cases hd : (ops[j]?).bind (·.dst) with
    | none => rw [hd] at h; exact h
    | some d =>
      rw [hd] at h
      simp only at h ⊢
      cases ht : a.tm[d]? with
      | none =>
        have : b.tm[d]? = none := by
          rw [List.getElem?_eq_none_iff] at ht ⊢
          rw [← hl.2.2.1]; exact ht
        rw [this]; rw [ht] at h; exact h
      | some x =>
        obtain ⟨y, hy, hxy⟩ := hl.2.2.2 d x ht
        rw [ht] at h
        rcases hxy with e | e
        · subst e; cases h
        · subst e; rw [hy]; exact h
theorem stepT_le {i : Nat} {a b s : Stt} (hl : Le a b) (h : (stepT P call icall On kf ops i a).val = some s) : ∃ s', (stepT P call icall On kf ops i b).val = some s' ∧ Le s s' := by
  cases hi : ops[i]? with
  | none =>
    simp only [stepT, hi] at h ⊢
    have := ret_some h; subst this
    exact ⟨b, rfl, hl⟩
  | some o =>
    rw [stepT_val hi] at h ⊢
    split at h
    · cases h
    · rename_i hg; rw [gd_le hl hg]; exact runT_le hl h
    · rename_i hg
      rw [gd_le hl hg]
      simp only [Option.some.injEq] at h; subst h
      exact ⟨_, rfl, hl.1, hl.2.1, putL_le hl.2.2.1 hl.2.2.2 o.dst (.inr rfl)⟩
theorem foldT_le : ∀ {is : List Nat} {a b s : Stt}, Le a b → (foldT P call icall On kf ops is a).val = some s → ∃ s', (foldT P call icall On kf ops is b).val = some s' ∧ Le s s'
  | [], a, b, s, hl, h => by
    have := ret_some h; subst this
    exact ⟨b, rfl, hl⟩
  | i :: is, a, b, s, hl, h => by
    obtain ⟨s1, h1, h2⟩ := Tr.bind_some h
    obtain ⟨s1', h3, hl1⟩ := stepT_le hl h1
    obtain ⟨s', h4, hl2⟩ := foldT_le hl1 h2
    exact ⟨s', by simp only [foldT, Tr.val_bind, h3, Option.bind_some]; exact h4, hl2⟩
theorem foldT_append {is js : List Nat} : ∀ {a b s : Stt}, (foldT P call icall On kf ops is a).val = some b → (foldT P call icall On kf ops js b).val = some s → (foldT P call icall On kf ops (is ++ js) a).val = some s := by
  induction is with
  | nil => intro a b s h1 h2; have := ret_some h1; subst this; exact h2
  | cons i is ih =>
    intro a b s h1 h2
    obtain ⟨s1, h3, h4⟩ := Tr.bind_some h1
    simp only [List.cons_append, foldT, Tr.val_bind, h3, Option.bind_some]
    exact ih h4 h2
end
end Go.Proofs.Ytacgchandefjgaa
