/-
  The evaluator is right: tests that were met, values merged, code. No program is named here.
-/
import Derived.Test.YthgmacoljkljfaaEvI
import Derived.LoopN
namespace Go.Proofs.Ythgmacoljkljfaa
open Go
section
variable {P : Program} {call : CallT} {ops : Array Oper} {kf : Md}
/-- The tests that were met agree with what the temporaries hold. -/
def Dec.Ok (dec : Dec) (tm : List AV) : Prop := ∀ d b, dec.look d = some b → ∀ x, tm[d]? = some x → ∃ kn, x = .v kn (.bool b)
theorem Dec.look_drop {e : Nat} : ∀ {dec : Dec} {d : Nat} {b : Bool}, (dec.drop (some e)).look d = some b → d ≠ e ∧ dec.look d = some b
  | [], _, _, h => by simp [Dec.drop, Dec.look] at h
  | (d', b') :: r, d, b, h => by
    have ih := @Dec.look_drop e r d b
    simp only [Dec.drop] at ih
    simp only [Dec.drop, List.filter_cons] at h
    by_cases he : d' = e
    · subst he
      simp only [beq_self_eq_true, Bool.not_true, Bool.false_eq_true, if_false] at h
      obtain ⟨h1, h2⟩ := ih h
      refine ⟨h1, ?_⟩
      simp only [Dec.look]
      rw [show (d' == d) = false by simp; omega]
      exact h2
    · rw [if_pos (by simp [he])] at h
      simp only [Dec.look] at h ⊢
      cases hd : d' == d with
      | true =>
        rw [hd] at h
        simp only [beq_iff_eq] at hd
        exact ⟨by omega, h⟩
      | false => rw [hd] at h; exact ih h
theorem Dec.Ok.drop {dec : Dec} {tm : List AV} (h : dec.Ok tm) (dst : Option Tmp) (x : AV) : (dec.drop dst).Ok (putL tm dst x) := by
  cases dst with
  | none => exact h
  | some e =>
    intro d b hl y hy
    obtain ⟨hne, hl⟩ := Dec.look_drop hl
    simp only [putL, List.getElem?_set_ne (Ne.symm hne)] at hy
    exact h d b hl y hy
theorem Dec.Ok.prop {dec : Dec} {tm : List AV} (h : dec.Ok tm) (dst : Option Tmp) (y : Operand) (b : Bool) : (dec.prop tm dst y).Ok (putL tm dst (clrIf b (opd tm y))) := by
  unfold Dec.prop
  split
  · rename_i d u
    split
    · rename_i c v hc hu
      intro e b hl z hz
      simp only [Dec.look] at hl
      cases hde : d == e with
      | true =>
        rw [hde] at hl
        simp only [Option.some.injEq] at hl; subst hl
        simp only [beq_iff_eq] at hde; subst hde
        simp only [putL, List.getElem?_set] at hz
        split at hz
        · split at hz
          · simp only [Option.some.injEq] at hz; subst hz
            simp only [opd, List.getD_eq_getElem?_getD, hu, Option.getD_some]
            obtain ⟨kn, rfl⟩ := h u c hc v hu
            cases b
            · exact ⟨kn, rfl⟩
            · exact ⟨false, rfl⟩
          · cases hz
        · rename_i hne; exact absurd trivial hne
      | false =>
        rw [hde] at hl
        exact h.drop (some d) _ e b hl z hz
    · exact h.drop _ _
  · exact h.drop _ _
theorem test_val {α : Type} {dec : Dec} {tm : List AV} (h : dec.Ok tm) {d : Nat} {kn b : Bool} (hd : tm[d]? = some (.v kn (.bool b))) {f : Bool → Dec → Tr α} {r : α} (hv : (test dec d kn b f).val = some r) :
    ∃ dec', dec'.Ok tm ∧ (f b dec').val = some r := by
  have cons : Dec.Ok ((d, b) :: dec) tm := fun e c hl y hy => by
    simp only [Dec.look] at hl
    cases hde : d == e with
    | true =>
      rw [hde] at hl
      simp only [Option.some.injEq] at hl; subst hl
      simp only [beq_iff_eq] at hde; subst hde
      rw [hd] at hy
      simp only [Option.some.injEq] at hy; subst hy
      exact ⟨kn, rfl⟩
    | false => rw [hde] at hl; exact h e c hl y hy
  unfold test at hv
  split at hv
  · rename_i c hc
    obtain ⟨_, he⟩ := h d c hc _ hd
    simp only [AV.v.injEq, Value.bool.injEq] at he
    obtain ⟨_, rfl⟩ := he
    exact ⟨dec, h, hv⟩
  · split at hv
    · exact ⟨dec, h, hv⟩
    · cases b
      · exact ⟨_, cons, hv⟩
      · exact ⟨_, cons, hv⟩
theorem runD_val {i : Nat} {o : Oper} {st s : Stt} {dec dec' : Dec} (hd : dec.Ok st.tm) (h : (runD P call kf i o st dec).val = some (s, dec')) : (runT P call kf i o st).val = some s ∧ dec'.Ok s.tm := by
  unfold runD at h
  split at h
  · rename_i t x y ho
    split at h
    · rename_i kn b hb
      obtain ⟨dec1, hd1, h⟩ := test_val hd hb h
      have ht : opd st.tm (.tmp t) = .v kn (.bool b) := by simp [opd, hb]
      cases b with
      | true =>
        simp only [Tr.val, Option.some.injEq, Prod.mk.injEq] at h
        obtain ⟨rfl, rfl⟩ := h
        refine ⟨?_, hd1.prop _ _ _⟩
        have := runT_of (P := P) (call := call) (i := i) (o := o) (st := st) (kf := kf) (by simp [keyOk, ho, addrOf]) (by simp only [opT, ho, ht, Tr.val_ite]; rfl)
        rw [this, show tested o = true by simp [tested, ho, isPick], Bool.and_true]
      | false =>
        simp only [Tr.val, Option.some.injEq, Prod.mk.injEq] at h
        obtain ⟨rfl, rfl⟩ := h
        refine ⟨?_, hd1.prop _ _ _⟩
        have := runT_of (P := P) (call := call) (i := i) (o := o) (st := st) (kf := kf) (by simp [keyOk, ho, addrOf]) (by simp only [opT, ho, ht, Tr.val_ite]; rfl)
        rw [this, show tested o = true by simp [tested, ho, isPick], Bool.and_true]
    · cases h
  · rename_i x ho
    simp only [Tr.val, Option.some.injEq, Prod.mk.injEq] at h
    obtain ⟨rfl, rfl⟩ := h
    exact ⟨runT_of (by simp [keyOk, ho, addrOf]) (by simp only [opT, ho]; rfl), hd.prop _ _ _⟩
  · rename_i x ho
    simp only [Tr.val, Option.some.injEq, Prod.mk.injEq] at h
    obtain ⟨rfl, rfl⟩ := h
    exact ⟨runT_of (by simp [keyOk, ho, addrOf]) (by simp only [opT, ho]; rfl), hd.prop _ _ _⟩
  · obtain ⟨s1, h1, h2⟩ := Tr.bind_some h
    simp only [Tr.val, Option.some.injEq, Prod.mk.injEq] at h2
    obtain ⟨rfl, rfl⟩ := h2
    refine ⟨h1, ?_⟩
    obtain ⟨x, dep, wr, rfl, _, _⟩ := runT_eff h1
    exact hd.drop _ _
theorem stepD_val {i : Nat} {st s : Stt} {dec dec' : Dec} (hd : dec.Ok st.tm) (h : (stepD P call kf ops i st dec).val = some (s, dec')) : (stepT P call kf ops i st).val = some s ∧ dec'.Ok s.tm := by
  unfold stepD at h
  split at h
  · rename_i hi
    simp only [Tr.val, Option.some.injEq, Prod.mk.injEq] at h
    obtain ⟨rfl, rfl⟩ := h
    exact ⟨by simp only [stepT, hi]; rfl, hd⟩
  · rename_i o hi
    rw [stepT_val hi]
    unfold gd
    split at h
    · rename_i hg
      rw [hg]
      exact runD_val hd h
    · rename_i j want hg
      rw [hg]
      simp only
      split at h
      · rename_i hdd
        rw [hdd]
        simp only [Tr.val, Option.some.injEq, Prod.mk.injEq] at h
        obtain ⟨rfl, rfl⟩ := h
        exact ⟨rfl, hd.drop _ _⟩
      · rename_i d hdd
        rw [hdd]
        simp only
        split at h
        · rename_i kn b hb
          rw [hb]
          simp only
          obtain ⟨dec1, hd1, h⟩ := test_val hd hb h
          split at h
          · rename_i hw
            rw [hw]
            exact runD_val hd1 h
          · rename_i hw
            rw [hw]
            simp only [Tr.val, Option.some.injEq, Prod.mk.injEq] at h
            obtain ⟨rfl, rfl⟩ := h
            exact ⟨rfl, hd1.drop _ _⟩
        · cases h
        · rename_i n1 n2
          simp only [Tr.val, Option.some.injEq, Prod.mk.injEq] at h
          obtain ⟨rfl, rfl⟩ := h
          refine ⟨?_, hd.drop _ _⟩
          cases ht : st.tm[d]? with
          | none => rfl
          | some z =>
            cases z with
            | v kn y => cases y <;> first | rfl | exact absurd ht (n1 _ _)
            | p => rfl
            | fn => rfl
            | junk => exact absurd ht n2
theorem foldD_val : ∀ {is : List Nat} {st s : Stt} {dec dec' : Dec}, dec.Ok st.tm → (foldD P call kf ops is st dec).val = some (s, dec') → (foldT P call kf ops is st).val = some s ∧ dec'.Ok s.tm
  | [], st, s, dec, dec', hd, h => by
    simp only [foldD, Tr.val, Option.some.injEq, Prod.mk.injEq] at h
    obtain ⟨rfl, rfl⟩ := h
    exact ⟨rfl, hd⟩
  | i :: is, st, s, dec, dec', hd, h => by
    obtain ⟨⟨s1, d1⟩, h1, h2⟩ := Tr.bind_some h
    obtain ⟨h3, h4⟩ := stepD_val hd h1
    obtain ⟨h5, h6⟩ := foldD_val h4 h2
    exact ⟨by simp only [foldT, Tr.val_bind, h3, Option.bind_some]; exact h5, h6⟩
/-- What some of a region's operations leave as it was. -/
def Same (ops : Array Oper) (is : List Nat) (st s : Stt) : Prop := s.tm.length = st.tm.length ∧ (∀ j, j ∉ dstsOf ops is → s.tm[j]? = st.tm[j]?) ∧ (stillOf ops is = true → s.own = st.own) ∧ s.nx = st.nx
theorem putL_same {i : Nat} {o : Oper} (hi : ops[i]? = some o) {is : List Nat} (hm : i ∈ is) {tm : List AV} {x : AV} : (putL tm o.dst x).length = tm.length ∧ ∀ j, j ∉ dstsOf ops is → (putL tm o.dst x)[j]? = tm[j]? := by
  cases hd : o.dst with
  | none => exact ⟨rfl, fun _ _ => rfl⟩
  | some d =>
    refine ⟨by simp [putL], fun j hj => ?_⟩
    have : d ≠ j := fun e => hj (by
      subst e
      exact List.mem_filterMap.2 ⟨i, hm, by rw [hi]; exact hd⟩)
    simp only [putL, List.getElem?_set_ne this]
theorem stepT_same {i : Nat} {is : List Nat} (hm : i ∈ is) {st s : Stt} (h : (stepT P call kf ops i st).val = some s) : Same ops is st s := by
  cases hi : ops[i]? with
  | none => simp only [stepT, hi, Tr.val, Option.some.injEq] at h; subst h; exact ⟨rfl, fun _ _ => rfl, fun _ => rfl, rfl⟩
  | some o =>
    rw [stepT_val hi] at h
    split at h
    · cases h
    · obtain ⟨x, dep, wr, rfl, he, _⟩ := runT_eff h
      obtain ⟨h1, h2⟩ := putL_same hi hm (tm := st.tm) (x := clrIf (kf.fg && tested o) x)
      refine ⟨h1, h2, fun hst => ?_, rfl⟩
      have := (List.all_eq_true.1 hst) i hm
      rw [hi] at this
      simp only [Bool.and_eq_true, Bool.not_eq_true'] at this
      cases wr with
      | none => rfl
      | some q =>
        obtain ⟨_, hq⟩ := he.2.2 q rfl
        rcases hq with ⟨hq, _⟩ | ⟨_, _, hq⟩
        · rw [this.1] at hq; cases hq
        · rw [this.2] at hq; cases hq
    · simp only [Option.some.injEq] at h; subst h
      obtain ⟨h1, h2⟩ := putL_same hi hm (tm := st.tm) (x := .v true undef)
      exact ⟨h1, h2, fun _ => rfl, rfl⟩
theorem foldT_same {all : List Nat} : ∀ {is : List Nat} {st s : Stt}, (∀ i ∈ is, i ∈ all) → (foldT P call kf ops is st).val = some s → Same ops all st s
  | [], st, s, _, h => by simp only [foldT, Tr.val, Option.some.injEq] at h; subst h; exact ⟨rfl, fun _ _ => rfl, fun _ => rfl, rfl⟩
  | i :: is, st, s, hm, h => by
    obtain ⟨s1, h1, h2⟩ := Tr.bind_some h
    obtain ⟨a1, a2, a3, a4⟩ := stepT_same (hm i List.mem_cons_self) h1
    obtain ⟨b1, b2, b3, b4⟩ := foldT_same (fun j hj => hm j (List.mem_cons_of_mem _ hj)) h2
    exact ⟨b1.trans a1, fun j hj => (b2 j hj).trans (a2 j hj), fun hs => (b3 hs).trans (a3 hs), b4.trans a4⟩
theorem zipCond_eq {b : Bool} {x y z : Value} (h : zipCond b x y = some z) : z = cond b x y := by
  unfold zipCond at h
  split at h
  · simp only [Option.some.injEq] at h; subst h; cases b <;> rfl
  · split at h
    · rename_i hk
      have hk := of_decide_eq_true hk
      simp only [Option.some.injEq] at h; subst h; subst hk; cases b <;> rfl
    · cases h
  · simp only [Option.some.injEq] at h; subst h; cases b <;> rfl
  · cases h
theorem zipConds_eq {b : Bool} : ∀ {xs ys zs : List Value}, zipConds b xs ys = some zs → zs = cond b xs ys
  | [], [], zs, h => by simp only [zipConds, Option.some.injEq] at h; subst h; cases b <;> rfl
  | x :: xs, y :: ys, zs, h => by
    simp only [zipConds] at h
    split at h
    · rename_i z zs' h1 h2
      simp only [Option.some.injEq] at h; subst h
      rw [zipCond_eq h1, zipConds_eq h2]; cases b <;> rfl
    · cases h
  | [], _ :: _, _, h => by simp [zipConds] at h
  | _ :: _, [], _, h => by simp [zipConds] at h
theorem zipVal_eq {b : Bool} {x y z : Value} (h : zipVal b x y = some z) : z = cond b x y := by
  unfold zipVal at h
  split at h
  · split at h
    · rename_i zs hz
      simp only [Option.some.injEq] at h; subst h
      rw [zipConds_eq hz]; cases b <;> simp
    · cases h
  · exact zipCond_eq h
theorem zipVals_eq {b : Bool} : ∀ {xs ys zs : List Value}, zipVals b xs ys = some zs → zs = cond b xs ys
  | [], [], zs, h => by simp only [zipVals, Option.some.injEq] at h; subst h; cases b <;> rfl
  | x :: xs, y :: ys, zs, h => by
    simp only [zipVals] at h
    split at h
    · rename_i z zs' h1 h2
      simp only [Option.some.injEq] at h; subst h
      rw [zipVal_eq h1, zipVals_eq h2]; cases b <;> rfl
    · cases h
  | [], _ :: _, _, h => by simp [zipVals] at h
  | _ :: _, [], _, h => by simp [zipVals] at h
theorem zipAny_eq {b : Bool} {x y z : Value} (h : zipAny b x y = some z) : z = cond b x y := by
  unfold zipAny at h
  split at h
  · split at h
    · rename_i zs hz
      simp only [Option.some.injEq] at h; subst h
      rw [zipVals_eq hz]; cases b <;> simp
    · cases h
  · exact zipVal_eq h
theorem mergeV_val : ∀ {t : Tr (Bool × Value)} {x : Value}, mergeV t = some x → ∃ kn, t.val = some (kn, x)
  | .ret r, x, h => by simp only [mergeV, Option.some.injEq] at h; subst h; exact ⟨r.1, rfl⟩
  | .br b t e, x, h => by
    simp only [mergeV] at h
    split at h
    · rename_i y z hy hz
      obtain ⟨k1, h1⟩ := mergeV_val hy
      obtain ⟨k2, h2⟩ := mergeV_val hz
      have := zipAny_eq h
      cases b
      · exact ⟨k2, by simp only [Tr.val, cond_false, h2, this]⟩
      · exact ⟨k1, by simp only [Tr.val, cond_true, h1, this]⟩
    · cases h
  | .bad _, _, h => by simp [mergeV] at h
theorem mergeF_val {t : Tr (Bool × Value)} {r : Bool × Value} (h : (mergeF t).val = some r) : ∃ kn, t.val = some (kn, r.2) := by
  unfold mergeF at h
  split at h
  · split at h
    · rename_i x hx
      simp only [Tr.val, Option.some.injEq] at h; subst h
      exact mergeV_val hx
    · exact ⟨r.1, h⟩
  · exact ⟨r.1, h⟩
theorem noBad_val : ∀ {t : Tr (Stt × Dec)}, noBad t = true → ∃ r, t.val = some r
  | .ret r, _ => ⟨r, rfl⟩
  | .br b t e, h => by
    simp only [noBad, Bool.and_eq_true] at h
    cases b
    · obtain ⟨r, hr⟩ := noBad_val h.2
      exact ⟨r, hr⟩
    · obtain ⟨r, hr⟩ := noBad_val h.1
      exact ⟨r, hr⟩
  | .bad _, h => by simp [noBad] at h
theorem mergeT_val {d : Nat} : ∀ {t : Tr (Stt × Dec)} {x : Value} {r : Stt × Dec}, mergeT d t = some x → t.val = some r → ∃ kn, r.1.tm[d]? = some (.v kn x)
  | .ret r', x, r, h, hr => by
    simp only [Tr.val, Option.some.injEq] at hr; subst hr
    simp only [mergeT] at h
    split at h
    · rename_i kn y hy
      simp only [Option.some.injEq] at h; subst h
      exact ⟨kn, hy⟩
    · cases h
  | .br b t e, x, r, h, hr => by
    simp only [mergeT] at h
    split at h
    · rename_i y z hy hz
      have := zipVal_eq h
      cases b
      · obtain ⟨kn, h1⟩ := mergeT_val hz hr
        exact ⟨kn, by rw [this]; exact h1⟩
      · obtain ⟨kn, h1⟩ := mergeT_val hy hr
        exact ⟨kn, by rw [this]; exact h1⟩
    · cases h
  | .bad _, _, _, h, _ => by simp [mergeT] at h
def mergedAt (t : Tr (Stt × Dec)) (d : Nat) : AV := match mergeT d t with | some x => .v false x | none => .junk
theorem mergeTm_cons (t : Tr (Stt × Dec)) (d : Nat) (r : List Nat) (tm : List AV) : mergeTm t (d :: r) tm = mergeTm t r (tm.set d (mergedAt t d)) := rfl
theorem mergeTm_at {t : Tr (Stt × Dec)} : ∀ {l : List Nat} {tm : List AV}, (mergeTm t l tm).length = tm.length ∧ ∀ j, (mergeTm t l tm)[j]? = tm[j]? ∧ j ∉ l ∨ j < tm.length ∧ j ∈ l ∧ (mergeTm t l tm)[j]? = some (mergedAt t j) ∨ tm.length ≤ j
  | [], tm => ⟨rfl, fun j => .inl ⟨rfl, by simp⟩⟩
  | d :: r, tm => by
    rw [mergeTm_cons]
    generalize hm : mergedAt t d = m
    obtain ⟨h1, h2⟩ := @mergeTm_at t r (tm.set d m)
    refine ⟨by simpa using h1, fun j => ?_⟩
    rcases h2 j with ⟨h3, h4⟩ | ⟨h3, h4, h5⟩ | h3
    · by_cases e : d = j
      · subst e
        by_cases hl : d < tm.length
        · refine .inr (.inl ⟨hl, by simp, ?_⟩)
          rw [h3, List.getElem?_set_self hl, hm]
        · exact .inr (.inr (by omega))
      · exact .inl ⟨by rw [h3, List.getElem?_set_ne e], by simp [h4]; omega⟩
    · exact .inr (.inl ⟨by simpa using h3, by simp [h4], h5⟩)
    · exact .inr (.inr (by simpa using h3))
theorem Dec.look_drops : ∀ {l : List Nat} {dec : Dec} {d : Nat} {b : Bool}, (dec.drops l).look d = some b → d ∉ l ∧ dec.look d = some b
  | [], _, _, _, h => ⟨by simp, h⟩
  | e :: l, dec, d, b, h => by
    obtain ⟨h1, h2⟩ := @Dec.look_drops l (dec.drop (some e)) d b h
    obtain ⟨h3, h4⟩ := Dec.look_drop h2
    exact ⟨by simp [h1, h3], h4⟩
end
section
variable {P : Program} {call : CallT} {ops : Array Oper} {kf : Md} {w0 : World}
/-- x says what y says, or nothing. The flags may differ only as 'fl' lets them. -/
def AV.le (x y : AV) : Prop := x = .junk ∨ x = y
theorem AV.le_rfl (x : AV) : x.le x := .inr rfl
theorem AV.le_of {x y : AV} (h : x.le y) (hx : x ≠ .junk) : x = y := h.resolve_left hx
/-- st tells at most what s tells. -/
def Le (st s : Stt) : Prop := st.own = s.own ∧ st.nx = s.nx ∧ st.tm.length = s.tm.length ∧ ∀ (j : Nat) (x : AV), st.tm[j]? = some x → ∃ y, s.tm[j]? = some y ∧ AV.le x y
theorem Le.refl (s : Stt) : Le s s := ⟨rfl, rfl, rfl, fun _ x h => ⟨x, h, .inr rfl⟩⟩
theorem Le.trans {a b c : Stt} (h : Le a b) (k : Le b c) : Le a c := by
  refine ⟨h.1.trans k.1, h.2.1.trans k.2.1, h.2.2.1.trans k.2.2.1, fun j x hx => ?_⟩
  obtain ⟨y, hy, hxy⟩ := h.2.2.2 j x hx
  obtain ⟨z, hz, hyz⟩ := k.2.2.2 j y hy
  refine ⟨z, hz, ?_⟩
  rcases hxy with e | e
  · exact .inl e
  · subst e; exact hyz
theorem Le.opd {a b : Stt} (h : Le a b) (y : Operand) : (opd a.tm y).le (opd b.tm y) := by
  cases y with
  | tmp t =>
    simp only [Go.Proofs.Ythgmacoljkljfaa.opd, List.getD_eq_getElem?_getD]
    cases ht : a.tm[t]? with
    | some x =>
      obtain ⟨z, hz, hxz⟩ := h.2.2.2 t x ht
      rw [hz]; exact hxz
    | none =>
      have : b.tm[t]? = none := by
        rw [List.getElem?_eq_none_iff] at ht ⊢
        rw [← h.2.2.1]; exact ht
      rw [this]; exact .inr rfl
  | const v => exact .inr rfl
  | global g => exact .inr rfl
  | func f => exact .inr rfl
theorem putL_le {a b : List AV} (hl : a.length = b.length) (h : ∀ (j : Nat) (x : AV), a[j]? = some x → ∃ y, b[j]? = some y ∧ AV.le x y) (dst : Option Tmp) {x y : AV} (hxy : x.le y) :
    (putL a dst x).length = (putL b dst y).length ∧ ∀ (j : Nat) (z : AV), (putL a dst x)[j]? = some z → ∃ u, (putL b dst y)[j]? = some u ∧ AV.le z u := by
  cases dst with
  | none => exact ⟨hl, h⟩
  | some d =>
    refine ⟨by simp [putL, hl], fun j z hz => ?_⟩
    simp only [putL] at hz ⊢
    by_cases e : d = j
    · subst e
      by_cases hlt : d < a.length
      · rw [List.getElem?_set_self hlt] at hz
        simp only [Option.some.injEq] at hz; subst hz
        exact ⟨y, List.getElem?_set_self (by rw [← hl]; exact hlt), hxy⟩
      · rw [List.getElem?_eq_none_iff.2 (by simpa using Nat.le_of_not_lt hlt)] at hz; cases hz
    · rw [List.getElem?_set_ne e] at hz ⊢
      exact h j z hz
theorem rep_le {ρ : Nat → Nat} {st s : Stt} {a : Act} {w : World} (h : Le st s) (r : RepS w0 ρ s a w) : RepS w0 ρ st a w := by
  obtain ⟨h1, h2, h3, h4⟩ := h
  have hr : RepS w0 ρ ⟨s.tm, st.own, st.nx⟩ a w := by rw [h1]; exact r
  refine { hr with len := ?_, tmp := ?_, okT := ?_ }
  · rw [hr.len]; exact h3.symm
  · intro t x hx
    obtain ⟨y, hy, hxy⟩ := h4 t x hx
    obtain ⟨u, hu, hyu⟩ := hr.tmp t y hy
    rcases hxy with e | e
    · subst e; exact ⟨u, hu, trivial⟩
    · subst e; exact ⟨u, hu, hyu⟩
  · intro x hx
    obtain ⟨j, hj⟩ := List.mem_iff_getElem?.1 hx
    obtain ⟨y, hy, hxy⟩ := h4 j x hj
    rcases hxy with e | e
    · subst e; exact trivial
    · subst e; exact hr.okT x (List.mem_of_getElem? hy)
theorem rawAll_none {xs : List AV} (h : AV.junk ∈ xs) : rawAll xs = none := by
  cases hr : rawAll xs with
  | none => rfl
  | some q =>
    obtain ⟨kn, l⟩ := q
    have := (List.all_eq_true.1 (rawAll_spec hr).2) _ h
    cases this
theorem ptrAll_none {xs : List AV} (h : AV.junk ∈ xs) : ptrAll xs = none := by
  cases hr : ptrAll xs with
  | none => rfl
  | some l =>
    have := ptrAll_spec hr
    rw [this] at h
    simp at h
/-- Where an operation that does not just hand on is evaluated, none of its operands is junk. -/
theorem opT_junk {o : Oper} {key : Nat} {tm : List AV} {own own1 : Own} {x : AV} (h : (opT P call key o tm own).val = some (x, own1)) (hm : ∀ y, o.op ≠ .move y) (ha : ∀ y, o.op ≠ .assign y) (hp : ∀ c y z, o.op ≠ .pick c y z) :
    ∀ y ∈ o.op.operands.toList, opd tm y ≠ .junk := by
  have gen : (generic P o tm own).val = some (x, own1) → ∀ y ∈ o.op.operands.toList, opd tm y ≠ .junk := fun h y hy e => by
    unfold generic at h
    split at h
    · cases h
    · rename_i hall
      have := (List.all_eq_true.1 hall) (opd tm y) (List.mem_map.2 ⟨y, hy, rfl⟩)
      rw [e] at this; cases this
  unfold opT at h
  split at h
  case h_1 y ho => exact absurd ho (hm y)
  case h_2 y ho => exact absurd ho (ha y)
  case h_3 c y z ho => exact absurd ho (hp c y z)
  case h_4 elem ho => intro y hy; rw [ho] at hy; simp [Op.operands] at hy
  case h_5 elem y ho =>
    split at h
    · rename_i hall
      intro z hz e
      rw [ho] at hz; simp [Op.operands] at hz; subst hz
      rw [e] at hall; simp [asCells, AV.one] at hall
    · cases h
  case h_6 t y ho =>
    split at h
    · rename_i k off hpp
      intro z hz e
      rw [ho] at hz; simp [Op.operands] at hz; subst hz
      rw [hpp] at e; cases e
    · cases h
  case h_7 t y z ho =>
    split at h
    · rename_i k off hpp
      split at h
      · split at h
        · rename_i hb
          simp only [Bool.and_eq_true] at hb
          intro u hu e
          rw [ho] at hu; simp [Op.operands] at hu
          rcases hu with rfl | rfl
          · rw [hpp] at e; cases e
          · rw [e] at hb; simp [asCells, AV.one] at hb
        · cases h
      · cases h
    · cases h
  case h_8 s y f ho =>
    split at h
    · rename_i k off fs hpp hs
      intro z hz e
      rw [ho] at hz; simp [Op.operands] at hz; subst hz
      rw [hpp] at e; cases e
    · cases h
  case h_9 t y ix ho =>
    split at h
    · rename_i k off n e kn ik i hpp ht hix
      intro z hz e
      rw [ho] at hz; simp [Op.operands] at hz
      rcases hz with rfl | rfl
      · rw [hpp] at e; cases e
      · rw [hix] at e; cases e
    · cases h
  case h_10 y ho =>
    split at h
    · rename_i k off hpp
      intro z hz e
      rw [ho] at hz; simp [Op.operands] at hz; subst hz
      rw [hpp] at e; cases e
    · rename_i f caps hpp
      intro z hz e
      rw [ho] at hz; simp [Op.operands] at hz; subst hz
      rw [hpp] at e; cases e
    · exact gen h
  case h_11 fn first caps ho =>
    split at h
    · rename_i f l hfirst hl
      intro z hz e
      rw [ho] at hz; simp [Op.operands] at hz
      rcases hz with hz | hz
      · have : first.toList = [] := hfirst
        rw [show first = #[] by simpa using this] at hz; simp at hz
      · rw [ptrAll_none (List.mem_map.2 ⟨z, by simpa using hz, e⟩)] at hl; cases hl
    · exact gen h
  case h_12 cl ho =>
    obtain ⟨callee, args, ats⟩ := cl
    split at h
    · rename_i f hcal
      simp only at hcal; subst hcal
      split at h
      · rename_i kn n first caps ra hf hra
        intro z hz e
        rw [ho] at hz; simp [Op.operands, Call.operands] at hz
        rcases hz with rfl | hz
        · rw [hf] at e; cases e
        · rw [rawAll_none (List.mem_map.2 ⟨z, by simpa using hz, e⟩)] at hra; cases hra
      · cases h
    · exact gen h
    · cases h
  case h_13 op t y z yt ho =>
    split at h
    all_goals first
      | exact gen h
      | (rename_i h1 h2
         intro u hu e
         rw [ho] at hu; simp [Op.operands] at hu
         rcases hu with rfl | rfl
         · rw [h1] at e; cases e
         · rw [h2] at e; cases e)
  case h_20 => cases h
  all_goals exact gen h
theorem opT_le {o : Oper} {key : Nat} {a b : Stt} (hl : Le a b) {x : AV} {own1 : Own} (h : (opT P call key o a.tm a.own).val = some (x, own1)) : ∃ y, (opT P call key o b.tm b.own).val = some (y, own1) ∧ x.le y := by
  have ho1 : a.own = b.own := hl.1
  by_cases hm : ∃ y, o.op = .move y
  · obtain ⟨y, ho⟩ := hm
    simp only [opT, ho, Tr.val, Option.some.injEq, Prod.mk.injEq] at h
    obtain ⟨rfl, rfl⟩ := h
    exact ⟨opd b.tm y, by simp only [opT, ho, ho1, Tr.val], hl.opd y⟩
  by_cases ha : ∃ y, o.op = .assign y
  · obtain ⟨y, ho⟩ := ha
    simp only [opT, ho, Tr.val, Option.some.injEq, Prod.mk.injEq] at h
    obtain ⟨rfl, rfl⟩ := h
    exact ⟨opd b.tm y, by simp only [opT, ho, ho1, Tr.val], hl.opd y⟩
  by_cases hp : ∃ c y z, o.op = .pick c y z
  · obtain ⟨c, y, z, ho⟩ := hp
    simp only [opT, ho] at h ⊢
    split at h
    · rename_i kn t ht
      have hc := AV.le_of (hl.opd c) (by rw [ht]; simp)
      rw [← hc, ht]
      simp only
      rw [Tr.val_ite] at h ⊢
      cases t with
      | true =>
        simp only [cond_true, Tr.val, Option.some.injEq, Prod.mk.injEq] at h
        obtain ⟨rfl, rfl⟩ := h
        exact ⟨opd b.tm y, by simp only [cond_true, Tr.val, ho1], hl.opd y⟩
      | false =>
        simp only [cond_false, Tr.val, Option.some.injEq, Prod.mk.injEq] at h
        obtain ⟨rfl, rfl⟩ := h
        exact ⟨opd b.tm z, by simp only [cond_false, Tr.val, ho1], hl.opd z⟩
    · cases h
  have hj := opT_junk h (fun y e => hm ⟨y, e⟩) (fun y e => ha ⟨y, e⟩) (fun c y z e => hp ⟨c, y, z, e⟩)
  refine ⟨x, ?_, .inr rfl⟩
  rw [← h, ho1]
  rw [opT_congr (tm := a.tm) (tm' := b.tm) fun y hy => AV.le_of (hl.opd y) (hj y (by simpa using hy))]
theorem clr_le {b : Bool} {x y : AV} (h : x.le y) : (clrIf b x).le (clrIf b y) := by
  rcases h with rfl | rfl
  · left; cases b <;> rfl
  · exact .inr rfl
theorem runT_le {i : Nat} {o : Oper} {a b s : Stt} (hl : Le a b) (h : (runT P call kf i o a).val = some s) : ∃ s', (runT P call kf i o b).val = some s' ∧ Le s s' := by
  obtain ⟨hk, x, own1, h1, rfl⟩ := runT_some h
  obtain ⟨y, h2, hxy⟩ := opT_le hl h1
  have hk' : keyOk kf i o b.tm = true := by
    rw [← hk]
    unfold keyOk
    cases hkf : kf.kf with
    | none => rfl
    | some l =>
      cases had : addrOf o.op with
      | none => rfl
      | some z =>
        have hz := hl.opd z
        simp only [keyOk, hkf, had] at hk
        rcases hz with e | e
        · rw [e] at hk; cases hk
        · simp only [e]
  rw [hl.2.1] at h2
  refine ⟨_, runT_of hk' h2, rfl, hl.2.1, ?_⟩
  exact putL_le hl.2.2.1 hl.2.2.2 o.dst (clr_le hxy)
theorem gd_le {o : Oper} {a b : Stt} (hl : Le a b) {c : Bool} (h : gd ops o a.tm = some c) : gd ops o b.tm = some c := by
  unfold gd at *
  cases hg : o.guard with
  | none => rw [hg] at h; exact h
  | some q =>
    obtain ⟨j, want⟩ := q
    rw [hg] at h
    simp only at h ⊢
    cases hd : (ops[j]?).bind (·.dst) with
    | none => rw [hd] at h; exact h
    | some d =>
      rw [hd] at h
      simp only at h ⊢
      cases ht : a.tm[d]? with
      | none =>
        have : b.tm[d]? = none := by
          rw [List.getElem?_eq_none_iff] at ht ⊢
          rw [← hl.2.2.1]; exact ht
        rw [this]; rw [ht] at h; exact h
      | some x =>
        obtain ⟨y, hy, hxy⟩ := hl.2.2.2 d x ht
        rw [ht] at h
        rcases hxy with e | e
        · subst e; cases h
        · subst e; rw [hy]; exact h
theorem stepT_le {i : Nat} {a b s : Stt} (hl : Le a b) (h : (stepT P call kf ops i a).val = some s) : ∃ s', (stepT P call kf ops i b).val = some s' ∧ Le s s' := by
  cases hi : ops[i]? with
  | none =>
    simp only [stepT, hi, Tr.val, Option.some.injEq] at h ⊢
    subst h
    exact ⟨b, rfl, hl⟩
  | some o =>
    rw [stepT_val hi] at h ⊢
    split at h
    · cases h
    · rename_i hg; rw [gd_le hl hg]; exact runT_le hl h
    · rename_i hg
      rw [gd_le hl hg]
      simp only [Option.some.injEq] at h; subst h
      exact ⟨_, rfl, hl.1, hl.2.1, putL_le hl.2.2.1 hl.2.2.2 o.dst (.inr rfl)⟩
theorem foldT_le : ∀ {is : List Nat} {a b s : Stt}, Le a b → (foldT P call kf ops is a).val = some s → ∃ s', (foldT P call kf ops is b).val = some s' ∧ Le s s'
  | [], a, b, s, hl, h => by
    simp only [foldT, Tr.val, Option.some.injEq] at h ⊢
    subst h
    exact ⟨b, rfl, hl⟩
  | i :: is, a, b, s, hl, h => by
    obtain ⟨s1, h1, h2⟩ := Tr.bind_some h
    obtain ⟨s1', h3, hl1⟩ := stepT_le hl h1
    obtain ⟨s', h4, hl2⟩ := foldT_le hl1 h2
    exact ⟨s', by simp only [foldT, Tr.val_bind, h3, Option.bind_some]; exact h4, hl2⟩
theorem foldT_append {is js : List Nat} : ∀ {a b s : Stt}, (foldT P call kf ops is a).val = some b → (foldT P call kf ops js b).val = some s → (foldT P call kf ops (is ++ js) a).val = some s := by
  induction is with
  | nil => intro a b s h1 h2; simp only [foldT, Tr.val, Option.some.injEq] at h1; subst h1; exact h2
  | cons i is ih =>
    intro a b s h1 h2
    obtain ⟨s1, h3, h4⟩ := Tr.bind_some h1
    simp only [List.cons_append, foldT, Tr.val_bind, h3, Option.bind_some]
    exact ih h4 h2
theorem zipVal_ne {b : Bool} {x y z : Value} (h : zipVal b x y = some z) : z ≠ undef := by
  intro e
  subst e
  unfold zipVal at h
  split at h
  · split at h <;> simp [undef] at h
  · unfold zipCond at h
    split at h
    · simp [undef] at h
    · split at h <;> simp [undef] at h
    · simp [undef] at h
    · cases h
theorem mergeT_ne {d : Nat} {b : Bool} {t e : Tr (Stt × Dec)} {x : Value} (h : mergeT d (.br b t e) = some x) : x ≠ undef := by
  simp only [mergeT] at h
  split at h
  · exact zipVal_ne h
  · cases h
/-- Operations' end, merged, still tells what is so. -/
theorem mergeR_le {is : List Nat} {st s : Stt} {dec dec' : Dec} (hd : dec.Ok st.tm) (h : (mergeR ops is st dec (foldD P call kf ops is st dec)).val = some (s, dec')) :
    ∃ s1, (foldT P call kf ops is st).val = some s1 ∧ dec'.Ok s.tm ∧ ∃ s2, Le s2 s1 ∧ s.own = s2.own ∧ s.nx = s2.nx ∧ s.tm.length = s2.tm.length ∧ ∀ (j : Nat) (x : AV), s.tm[j]? = some x → ∃ y, s2.tm[j]? = some y ∧ (x = y ∨ ∃ k v, x = .v false v ∧ y = .v k v ∧ j ∈ dstsOf ops is ∧ v ≠ undef) := by
  have plain : (foldD P call kf ops is st dec).val = some (s, dec') → ∃ s1, (foldT P call kf ops is st).val = some s1 ∧ dec'.Ok s.tm ∧ ∃ s2, Le s2 s1 ∧ s.own = s2.own ∧ s.nx = s2.nx ∧ s.tm.length = s2.tm.length ∧ ∀ (j : Nat) (x : AV), s.tm[j]? = some x → ∃ y, s2.tm[j]? = some y ∧ (x = y ∨ ∃ k v, x = .v false v ∧ y = .v k v ∧ j ∈ dstsOf ops is ∧ v ≠ undef) := fun h => by
    obtain ⟨h1, h2⟩ := foldD_val hd h
    exact ⟨s, h1, h2, s, Le.refl s, rfl, rfl, rfl, fun j x hx => ⟨x, hx, .inl rfl⟩⟩
  generalize ht : foldD P call kf ops is st dec = t at h plain
  unfold mergeR at h
  split at h
  · rename_i b t1 e1
    split at h
    · rename_i hb
      simp only [Bool.and_eq_true] at hb
      obtain ⟨hst, hnb⟩ := hb
      obtain ⟨⟨s1, d1⟩, hv⟩ := noBad_val hnb
      obtain ⟨h1, h2⟩ := foldD_val hd (by rw [ht]; exact hv)
      obtain ⟨a1, a2, a3, a4⟩ := foldT_same (all := is) (fun _ h => h) h1
      simp only [Tr.val, Option.some.injEq, Prod.mk.injEq] at h
      obtain ⟨rfl, rfl⟩ := h
      have hm := @mergeTm_at (.br b t1 e1) (dstsOf ops is) st.tm
      -- what the merged state tells, with the flags of the state itself
      refine ⟨s1, h1, ?_, ⟨s1.tm.mapIdx fun j y => if j ∈ dstsOf ops is then (match mergeT j (.br b t1 e1) with | some _ => y | none => .junk) else y, s1.own, s1.nx⟩, ⟨rfl, rfl, by simp, ?_⟩, (a3 hst).symm, a4.symm, ?_, ?_⟩
      · intro d c hl x hx
        obtain ⟨h3, h4⟩ := Dec.look_drops hl
        rcases hm.2 d with ⟨h5, _⟩ | ⟨_, h5, _⟩ | h5
        · rw [h5] at hx; exact hd d c h4 x hx
        · exact absurd h5 h3
        · have : (mergeTm (.br b t1 e1) (dstsOf ops is) st.tm)[d]? = none := List.getElem?_eq_none_iff.2 (by rw [hm.1]; exact h5)
          rw [this] at hx; cases hx
      · intro j x hx
        simp only [List.getElem?_mapIdx, Option.map_eq_some_iff] at hx
        obtain ⟨y, hy, rfl⟩ := hx
        refine ⟨y, hy, ?_⟩
        split
        · split
          · exact .inr rfl
          · exact .inl rfl
        · exact .inr rfl
      · simp only [List.length_mapIdx]; rw [hm.1, a1]
      · intro j x hx
        simp only [List.getElem?_mapIdx]
        rcases hm.2 j with ⟨h5, h6⟩ | ⟨h5, h7, h6⟩ | h5
        · simp only at hx
          rw [h5, ← a2 j h6] at hx
          exact ⟨x, by rw [hx]; simp [h6], .inl rfl⟩
        · simp only at hx
          rw [h6] at hx
          simp only [Option.some.injEq] at hx; subst hx
          unfold mergedAt
          have hlt : j < s1.tm.length := by omega
          cases hmt : mergeT j (.br b t1 e1) with
          | none => exact ⟨.junk, by rw [List.getElem?_eq_getElem hlt]; simp [h7], .inl rfl⟩
          | some y =>
            obtain ⟨kn, hy⟩ := mergeT_val hmt hv
            exact ⟨.v kn y, by rw [hy]; simp [h7], .inr ⟨kn, y, rfl, rfl, h7, mergeT_ne hmt⟩⟩
        · have : (mergeTm (.br b t1 e1) (dstsOf ops is) st.tm)[j]? = none := List.getElem?_eq_none_iff.2 (by rw [hm.1]; exact h5)
          simp only at hx
          rw [this] at hx; cases hx
    · exact plain h
  · exact plain h
theorem rep_flags {ρ : Nat → Nat} {is : List Nat} {s s2 : Stt} {a : Act} {w : World} (h1 : s.own = s2.own) (h3 : s.tm.length = s2.tm.length) (h4 : ∀ (j : Nat) (x : AV), s.tm[j]? = some x → ∃ y, s2.tm[j]? = some y ∧ (x = y ∨ ∃ k v, x = .v false v ∧ y = .v k v ∧ j ∈ dstsOf ops is ∧ v ≠ undef)) (r : RepS w0 ρ s2 a w) : RepS w0 ρ s a w := by
  have hr : RepS w0 ρ ⟨s2.tm, s.own, s.nx⟩ a w := by rw [h1]; exact r
  refine { hr with len := ?_, tmp := ?_, okT := ?_ }
  · rw [hr.len]; exact h3.symm
  · intro t x hx
    obtain ⟨y, hy, hxy⟩ := h4 t x hx
    obtain ⟨u, hu, hyu⟩ := hr.tmp t y hy
    rcases hxy with e | ⟨k, v, rfl, rfl, _⟩
    · subst e; exact ⟨u, hu, hyu⟩
    · exact ⟨u, hu, hyu⟩
  · intro x hx
    obtain ⟨j, hj⟩ := List.mem_iff_getElem?.1 hx
    obtain ⟨y, hy, hxy⟩ := h4 j x hj
    rcases hxy with e | ⟨k, v, rfl, rfl, _⟩
    · subst e; exact hr.okT x (List.mem_of_getElem? hy)
    · exact trivial
/-- Where what depends on a test is taken as not known, its flag says so. -/
def Flagged (st : Stt) (d : Nat) : Prop := ∀ k v, st.tm[d]? = some (.v k v) → k = false ∨ v = undef
theorem stepT_flags (hfg : kf.fg = true) {i : Nat} {st s : Stt} (ht : (match ops[i]? with | some o => tested o | none => false) = true) (h : (stepT P call kf ops i st).val = some s) :
    (∀ d, Flagged st d → Flagged s d) ∧ ∀ d, (ops[i]?).bind (·.dst) = some d → Flagged s d := by
  cases hi : ops[i]? with
  | none => rw [hi] at ht; cases ht
  | some o =>
    rw [hi] at ht
    simp only at ht
    have key : ∀ (x : AV), (∀ k v, x = .v k v → k = false ∨ v = undef) → s.tm = putL st.tm o.dst x → (∀ d, Flagged st d → Flagged s d) ∧ ∀ d, (some o).bind (·.dst) = some d → Flagged s d := by
      intro x hx he
      have at' : ∀ d, Flagged st d ∨ o.dst = some d → Flagged s d := by
        intro d hd k v hk
        rw [he] at hk
        cases hdst : o.dst with
        | none =>
          rw [hdst] at hk hd
          rcases hd with hd | hd
          · exact hd k v hk
          · cases hd
        | some e =>
          rw [hdst] at hk hd
          simp only [putL, List.getElem?_set] at hk
          split at hk
          · split at hk
            · simp only [Option.some.injEq] at hk; exact hx k v hk
            · cases hk
          · rename_i hne
            rcases hd with hd | hd
            · exact hd k v hk
            · simp only [Option.some.injEq] at hd; exact absurd hd hne
      exact ⟨fun d hd => at' d (.inl hd), fun d hd => at' d (.inr hd)⟩
    rw [stepT_val hi] at h
    split at h
    · cases h
    · obtain ⟨x, dep, wr, rfl, _, _⟩ := runT_eff h
      refine key (clrIf (kf.fg && tested o) x) (fun k v hkv => ?_) rfl
      rw [hfg, ht] at hkv
      cases x with
      | v kn y => simp only [Bool.and_self, clrIf, AV.clr, AV.v.injEq] at hkv; exact .inl hkv.1.symm
      | p => cases hkv
      | fn => cases hkv
      | junk => cases hkv
    · simp only [Option.some.injEq] at h; subst h
      exact key (.v true undef) (fun k v hkv => by simp only [AV.v.injEq] at hkv; exact .inr hkv.2.symm) rfl
theorem foldT_flags (hfg : kf.fg = true) : ∀ {is : List Nat} {st s : Stt}, (is.all fun j => match ops[j]? with | some o => tested o | none => false) = true → (foldT P call kf ops is st).val = some s →
    (∀ d, Flagged st d → Flagged s d) ∧ ∀ d ∈ dstsOf ops is, Flagged s d
  | [], st, s, _, h => by
    simp only [foldT, Tr.val, Option.some.injEq] at h; subst h
    exact ⟨fun _ h => h, fun d hd => by simp [dstsOf] at hd⟩
  | i :: is, st, s, ht, h => by
    simp only [List.all_cons, Bool.and_eq_true] at ht
    obtain ⟨s1, h1, h2⟩ := Tr.bind_some h
    obtain ⟨a1, a2⟩ := stepT_flags hfg ht.1 h1
    obtain ⟨b1, b2⟩ := foldT_flags hfg ht.2 h2
    refine ⟨fun d hd => b1 d (a1 d hd), fun d hd => ?_⟩
    simp only [dstsOf, List.filterMap_cons] at hd
    cases hdi : (ops[i]?).bind (·.dst) with
    | none => rw [hdi] at hd; exact b2 d hd
    | some e =>
      rw [hdi] at hd
      rcases List.mem_cons.1 hd with e' | hd
      · subst e'; exact b1 _ (a2 _ hdi)
      · exact b2 d hd
theorem mergeR_seg (hfg : kf.fg = true) {is : List Nat} (ht : (is.all fun j => match ops[j]? with | some o => tested o | none => false) = true) {st s : Stt} {dec dec' : Dec} (hd : dec.Ok st.tm) (h : (mergeR ops is st dec (foldD P call kf ops is st dec)).val = some (s, dec')) :
    ∃ s1, (foldT P call kf ops is st).val = some s1 ∧ dec'.Ok s.tm ∧ Le s s1 := by
  obtain ⟨s1, h1, h2, s2, hl, e1, e2, e3, e4⟩ := mergeR_le hd h
  refine ⟨s1, h1, h2, e1.trans hl.1, e2.trans hl.2.1, e3.trans hl.2.2.1, fun j x hx => ?_⟩
  obtain ⟨y, hy, hxy⟩ := e4 j x hx
  obtain ⟨z, hz, hyz⟩ := hl.2.2.2 j y hy
  refine ⟨z, hz, ?_⟩
  rcases hxy with e | ⟨k, v, rfl, rfl, hm, hne⟩
  · subst e; exact hyz
  · have := AV.le_of hyz (by simp)
    subst this
    have hf := (foldT_flags hfg ht h1).2 j hm k v hz
    rcases hf with rfl | e
    · exact .inr rfl
    · exact absurd e hne
theorem spanPick_eq {d : Nat} : ∀ {l a b : List Nat}, spanPick ops d l = some (a, b) → l = a ++ b
  | [], _, _, h => by cases h
  | i :: r, a, b, h => by
    simp only [spanPick] at h
    split at h
    · simp only [Option.some.injEq, Prod.mk.injEq] at h
      obtain ⟨rfl, rfl⟩ := h; rfl
    · split at h
      · rename_i a' b' h'
        simp only [Option.some.injEq, Prod.mk.injEq] at h
        obtain ⟨rfl, rfl⟩ := h
        rw [spanPick_eq h']; rfl
      · cases h
theorem segD_val (hfg : kf.fg = true) : ∀ {n : Nat} {is : List Nat} {st s : Stt} {dec dec' : Dec}, dec.Ok st.tm → (segD P call kf ops n is st dec).val = some (s, dec') → ∃ s1, (foldT P call kf ops is st).val = some s1 ∧ Le s s1 ∧ dec'.Ok s.tm
  | 0, is, st, s, dec, dec', hd, h => by
    obtain ⟨h1, h2⟩ := foldD_val hd h
    exact ⟨s, h1, Le.refl s, h2⟩
  | n + 1, [], st, s, dec, dec', hd, h => by
    simp only [segD, Tr.val, Option.some.injEq, Prod.mk.injEq] at h
    obtain ⟨rfl, rfl⟩ := h
    exact ⟨st, rfl, Le.refl st, hd⟩
  | n + 1, i :: r, st, s, dec, dec', hd, h => by
    have step : ∀ {q : Stt × Dec}, (stepD P call kf ops i st dec).val = some q → (segD P call kf ops n r q.1 q.2).val = some (s, dec') → ∃ s1, (foldT P call kf ops (i :: r) st).val = some s1 ∧ Le s s1 ∧ dec'.Ok s.tm := by
      intro q h1 h2
      obtain ⟨h3, h4⟩ := stepD_val hd (s := q.1) (dec' := q.2) h1
      obtain ⟨s1, h5, h6, h7⟩ := segD_val hfg h4 h2
      exact ⟨s1, by simp only [foldT, Tr.val_bind, h3, Option.bind_some]; exact h5, h6, h7⟩
    simp only [segD] at h
    split at h
    · rename_i seg rest hspan
      have hsp : i :: r = seg ++ rest := by
        split at hspan
        · exact spanPick_eq hspan
        · cases hspan
      split at h
      · rename_i hall
        obtain ⟨⟨sm, dm⟩, h1, h2⟩ := Tr.bind_some h
        obtain ⟨s1, h3, h4, h5⟩ := mergeR_seg hfg hall hd h1
        obtain ⟨s2, h6, h7, h8⟩ := segD_val hfg h4 h2
        obtain ⟨s3, h9, h10⟩ := foldT_le h5 h6
        exact ⟨s3, by rw [hsp]; exact foldT_append h3 h9, h7.trans h10, h8⟩
      · obtain ⟨q, h1, h2⟩ := Tr.bind_some h
        exact step h1 h2
    · obtain ⟨q, h1, h2⟩ := Tr.bind_some h
      exact step h1 h2
/-- A region's evaluation tells what is so at its end. -/
theorem regionT_val {st s : Stt} {dec dec' : Dec} (hd : dec.Ok st.tm) (h : (regionT P call kf ops st dec).val = some (s, dec')) :
    ∃ s1, (foldT P call kf ops (List.range ops.size) st).val = some s1 ∧ dec'.Ok s.tm ∧ ∀ ρ a w, RepS w0 ρ s1 a w → RepS w0 ρ s a w := by
  unfold regionT at h
  split at h
  · obtain ⟨s1, h1, h2, s2, hl, e1, e2, e3, e4⟩ := mergeR_le hd h
    exact ⟨s1, h1, h2, fun ρ a w r => rep_flags e1 e3 e4 (rep_le hl r)⟩
  · rename_i hfg
    obtain ⟨s1, h1, h2, h3⟩ := segD_val hfg hd h
    exact ⟨s1, h1, h3, fun ρ a w r => rep_le h2 r⟩
end
end Go.Proofs.Ythgmacoljkljfaa
