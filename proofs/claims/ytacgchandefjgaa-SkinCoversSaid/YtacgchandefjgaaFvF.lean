/-
  The evaluator is right: readings. No program is named here.
-/
import Derived.Test.YtacgchandefjgaaFvE
namespace Go.Proofs.Ytacgchandefjgaa
open Go
section
variable {P : Program} {w : World}
theorem run_info {t : TypeId} {i : TypeInfo} (h : P.info? t = some i) : (typeInfo t).run P w = .ok i w := by simp [typeInfo, h]
theorem run_und {t : TypeId} {d : TypeDesc} (h : P.underlying t = some d) : (underlying t).run P w = .ok d w := by simp [underlying, h]
theorem run_size {t : TypeId} {i : TypeInfo} (h : P.info? t = some i) : (sizeOf t).run P w = .ok i.size w := by simp [sizeOf, run_info h]
theorem run_size' {t : TypeId} {n : Nat} (h : (P.info? t).map (·.size) = some n) : (sizeOf t).run P w = .ok n w := by
  obtain ⟨i, hi, rfl⟩ := Option.map_eq_some_iff.1 h
  exact run_size hi
theorem aggSize_true {t : TypeId} {n : Nat} (h : aggSize P t = some (true, n)) : (isAgg t).run P w = .ok true w ∧ (sizeOf t).run P w = .ok n w := by
  unfold aggSize at h
  split at h
  · rename_i f i hu hi
    simp only [Option.some.injEq, Prod.mk.injEq, true_and] at h; subst h
    exact ⟨by simp [isAgg, run_und hu], run_size hi⟩
  · rename_i e n' i hu hi
    simp only [Option.some.injEq, Prod.mk.injEq, true_and] at h; subst h
    exact ⟨by simp [isAgg, run_und hu], run_size hi⟩
  · simp at h
  · simp at h
theorem aggSize_false {t : TypeId} {n : Nat} (h : aggSize P t = some (false, n)) : (isAgg t).run P w = .ok false w := by
  unfold aggSize at h
  split at h
  · simp at h
  · simp at h
  · rename_i d i h1 h2 hu hi
    cases d <;> first | exact absurd rfl (h1 _) | exact absurd rfl (h2 _ _) | simp [isAgg, run_und hu]
  · simp at h
theorem add_plain' (b off n : Nat) : (⟨b, off, none⟩ : Addr).add n = ⟨b, off + n, none⟩ := by
  unfold Addr.add
  split
  · rename_i h; subst h; rfl
  · rfl
theorem run_newVar {t : TypeId} {u : Value} : (newVar t u).run P w = .ok ⟨w.heap.size, 0, none⟩ (w.alloc (.cells u.cells t)) := by
  simp only [newVar, newRow, newObj, Sem.run_bind, Sem.run_pure]
  rfl
theorem partV_run {t : TypeId} {cs : Array Value} {off : Nat} {v : Value} (h : partV P t cs off = some v) (w : World) : (part t cs off).run P w = .ok v w := by
  unfold partV at h
  split at h
  · rename_i n hn
    simp only [Option.some.injEq] at h; subst h
    simp [part, (aggSize_true hn).1, (aggSize_true hn).2]
  · rename_i n hn
    simp [part, aggSize_false hn, h]
  · cases h
theorem fieldsB_run {eq : TypeId → Value → Value → Option Bool} {d : Nat} (heq : ∀ t x y b, eq t x y = some b → ∀ w, (Op.equalIn d t x y).run P w = .ok b w) {xs ys : Array Value} :
    ∀ {fs : List Field} {b : Bool}, fieldsB P eq xs ys fs = some b → ∀ w, (Op.eqFields d xs ys fs).run P w = .ok b w
  | [], _, h, w => by simp only [fieldsB, Option.some.injEq] at h; subst h; simp [Op.eqFields]
  | f :: r, b, h, w => by
    simp only [fieldsB] at h
    split at h
    · cases h
    · rename_i hn
      split at h
      · rename_i x y hx hy
        split at h
        · rename_i p q hp hq
          simp only [Option.some.injEq] at h; subst h
          have e1 := heq _ _ _ _ hp w
          have e2 := fieldsB_run heq hq w
          cases p <;> simp [Op.eqFields, hn, partV_run hx, partV_run hy, e1, e2]
        · cases h
      · cases h
theorem elems_run {eq : TypeId → Value → Value → Option Bool} {d : Nat} (heq : ∀ t x y b, eq t x y = some b → ∀ w, (Op.equalIn d t x y).run P w = .ok b w) {xs ys : Array Value} {e : TypeId} {n : Nat} (w : World) :
    ∀ (m i : Nat) (b : Bool), elemsB P eq e n xs ys i m = some b →
    ((forIn (List.range' i m 1) ((none, ()) : Option Bool × Unit) fun i _ => do
        if (!(← Op.equalIn d e (← part e xs (i * n)) (← part e ys (i * n)))) = true then pure (ForInStep.done (some false, ())) else pure (ForInStep.yield (none, ()))) : Sem _).run P w
      = .ok ((if b then none else some false, ()) : Option Bool × Unit) w
  | 0, i, b, h => by simp only [elemsB, Option.some.injEq] at h; subst h; simp
  | m + 1, i, b, h => by
    simp only [elemsB] at h
    split at h
    · rename_i x y hx hy
      split at h
      · rename_i p q hp hq
        simp only [Option.some.injEq] at h; subst h
        have e1 := heq _ _ _ _ hp w
        have e2 := elems_run heq w m (i + 1) q hq
        cases p
        · simp [List.range'_succ, partV_run hx, partV_run hy, e1]
        · simp only [List.range'_succ, List.forIn_cons, Sem.run_bind, partV_run hx, partV_run hy, e1, Result.andThen_ok, Bool.not_true, Bool.false_eq_true, if_false, Sem.run_pure, e2, Bool.true_and]
      · cases h
    · cases h
theorem eqB_run : ∀ {d : Nat} {t : TypeId} {x y : Value} {b : Bool}, eqB P d t x y = some b → ∀ D, d ≤ D → ∀ w, (Op.equalIn D t x y).run P w = .ok b w
  | 0, _, _, _, _, h, _, _, _ => by cases h
  | d + 1, t, x, y, b, h, D, hD, w => by
    obtain ⟨D, rfl⟩ : ∃ D', D = D' + 1 := ⟨D - 1, by omega⟩
    have ih : ∀ t x y b, eqB P d t x y = some b → ∀ w, (Op.equalIn D t x y).run P w = .ok b w := fun t x y b h w => eqB_run h D (by omega) w
    simp only [eqB] at h
    split at h
    · rename_i hu; simp only [Option.some.injEq] at h; subst h; simp [Op.equalIn, run_und hu]
    · rename_i hu
      split at h
      · rename_i hk; simp only [Option.some.injEq] at h; subst h; simp [Op.equalIn, run_und hu, hk]
      · cases h
    · rename_i hu; simp only [Option.some.injEq] at h; subst h; simp [Op.equalIn, run_und hu]
    · rename_i fs xs ys hu
      split at h
      · cases h
      · rename_i hs
        have hf : P.fieldsOf t = fs := by simp [Program.fieldsOf, hu]
        rw [run_equalIn_struct w D t xs ys (by rw [hf]; exact hu) (by simpa using hs), hf]
        exact fieldsB_run ih h w
    · rename_i len e xs ys hu
      split at h
      · rename_i i hi
        have := elems_run ih w len 0 b h
        simp only [Op.equalIn, Sem.run_bind, run_und hu, Result.andThen_ok, run_size hi]
        rw [Std.Legacy.Range.forIn_eq_forIn_range']
        simp only [Std.Legacy.Range.size, Nat.sub_zero, Nat.add_sub_cancel, Nat.div_one]
        cases b <;> simp_all
      · cases h
    · cases h
end
theorem take_len {α : Type} {l : List α} {a : Nat} (h : ((l.drop a)).length = 0) : l.length ≤ a := by simp at h; omega
section
variable {own : Own} {ρ : Nat → Option Nat} {fr : Nat → Prop} {w : World}
theorem CV.is_one {c : CV} {u : Value} (h : c.is own ρ fr w u) (h1 : c.oneB = true) : u.oneCell' = true := by
  cases c with
  | v kn x => simp only [CV.is] at h; subst h; exact h1
  | p k off => obtain ⟨b, _, rfl⟩ := h; rfl
  | fn f caps => obtain ⟨as, rfl, _⟩ := h; rfl
  | junk => cases h1
  | d kl kn t l => obtain ⟨a, c, e, _⟩ := h; cases e; rfl
  | s kn k i n => obtain ⟨a, m, c, rfl⟩ := SIs.slice h; rfl
  | e kn t x off => obtain ⟨b, o, rfl, _⟩ := h; rfl
  | ap kn k i m off => obtain ⟨b, _, rfl⟩ := h; rfl
theorem rawC_is : ∀ {l : List CV} {kn : Bool} {vs : List Value}, rawC l = some (kn, vs) → ∀ {us : List Value}, csIs own ρ fr w l us → us = vs
  | [], kn, vs, h, us, hu => by simp only [rawC, Option.some.injEq, Prod.mk.injEq] at h; cases hu; exact h.2
  | .v k x :: r, kn, vs, h, us, ⟨u, us', e, h1, h2⟩ => by
    simp only [rawC] at h
    split at h
    · rename_i k' l' h'
      simp only [Option.some.injEq, Prod.mk.injEq] at h
      obtain ⟨_, rfl⟩ := h
      subst e
      rw [rawC_is h' h2]
      exact congrArg (· :: l') h1
    · cases h
  | .fn f [] :: r, kn, vs, h, us, ⟨u, us', e, h1, h2⟩ => by
    simp only [rawC] at h
    split at h
    · rename_i k' l' h'
      simp only [Option.some.injEq, Prod.mk.injEq] at h
      obtain ⟨_, rfl⟩ := h
      subst e
      rw [rawC_is h' h2]
      obtain ⟨as, rfl, ha⟩ := h1
      cases ha; rfl
    · cases h
  | .fn f (_ :: _) :: r, _, _, h, _, _ => by simp [rawC] at h
  | .p .. :: _, _, _, h, _, _ | .junk :: _, _, _, h, _, _ | .d .. :: _, _, _, h, _, _ | .s .. :: _, _, _, h, _, _ | .e .. :: _, _, _, h, _, _ | .ap .. :: _, _, _, h, _, _ => by simp [rawC] at h
theorem rawA_is {x : AV} {kn : Bool} {v u : Value} (h : rawA x = some (kn, v)) (hx : x.is own ρ fr w u) : u = v := by
  unfold rawA at h
  split at h
  · simp only [Option.some.injEq, Prod.mk.injEq] at h; obtain ⟨_, rfl⟩ := h; exact hx
  · simp only [Option.some.injEq, Prod.mk.injEq] at h; obtain ⟨_, rfl⟩ := h
    obtain ⟨as, rfl, ha⟩ := hx
    cases ha; rfl
  · split at h
    · rename_i k vs h'
      simp only [Option.some.injEq, Prod.mk.injEq] at h; obtain ⟨_, rfl⟩ := h
      obtain ⟨us, rfl, hu⟩ := hx
      rw [rawC_is h' hu]
    · cases h
  · cases h
theorem rawOr_is {x : AV} {u : Value} (h : x.isRaw = true) (hx : x.is own ρ fr w u) : u = rawOr x := by
  unfold AV.isRaw at h
  unfold rawOr
  cases hr : rawA x with
  | none => rw [hr] at h; cases h
  | some q => obtain ⟨kn, v⟩ := q; exact rawA_is hr hx
theorem csIs_one : ∀ {l : List CV} {us : List Value}, csIs own ρ fr w l us → l.all CV.oneB = true → ∀ u ∈ us, u.oneCell' = true
  | [], us, h, _, u, hu => by cases h; cases hu
  | c :: cs, _, ⟨u', us', e, h1, h2⟩, h, u, hu => by
    subst e
    simp only [List.all_cons, Bool.and_eq_true] at h
    rcases List.mem_cons.1 hu with rfl | hu
    · exact CV.is_one h1 h.1
    · exact csIs_one h2 h.2 u hu
theorem cells_one {u : Value} (h : u.oneCell' = true) : u.cells = #[u] := by cases u <;> first | rfl | cases h
theorem asCells_is {x : AV} {cs : List CV} {u : Value} (h : asCells x = some cs) (hx : x.is own ρ fr w u) : csIs own ρ fr w cs u.cells.toList ∧ (∀ v ∈ u.cells.toList, v.oneCell' = true) ∧ cs.flatMap CV.keys = x.keys := by
  unfold asCells at h
  split at h
  · split at h
    · rename_i c h1
      simp only [Option.some.injEq] at h; subst h
      have ho := CV.is_one hx h1
      refine ⟨?_, ?_, rfl⟩
      · rw [cells_one ho]; exact ⟨u, [], rfl, hx, rfl⟩
      · rw [cells_one ho]; intro v hv; simp at hv; subst hv; exact ho
    · cases h
  · split at h
    · rename_i l h1
      simp only [Option.some.injEq] at h; subst h
      obtain ⟨us, rfl, hu⟩ := hx
      exact ⟨hu, csIs_one hu h1, rfl⟩
    · cases h
  · cases h
theorem Ty.cells_is {kn : Bool} : ∀ {t : Ty} {x : t.den} {us : List Value}, t.Is w fr x us → csIs own ρ fr w (t.cells kn x) us
  | .int _, _, _, h => by cases h; exact ⟨_, [], rfl, rfl, rfl⟩
  | .bool, _, _, h => by cases h; exact ⟨_, [], rfl, rfl, rfl⟩
  | .str, _, _, h => by cases h; exact ⟨_, [], rfl, rfl, rfl⟩
  | .prod a b, _, _, ⟨us, ws, e, h1, h2⟩ => by subst e; exact csIs_append (Ty.cells_is h1) (Ty.cells_is h2)
  | .list t, l, us, h => by
    have h' := h
    obtain ⟨a, c, e, _⟩ := h'
    subst e
    exact ⟨_, [], rfl, h, rfl⟩
theorem Ty.cells_keys {kn : Bool} : ∀ {t : Ty} {x : t.den}, (t.cells kn x).flatMap CV.keys = []
  | .int _, _ => rfl
  | .bool, _ => rfl
  | .str, _ => rfl
  | .prod a b, _ => by simp [Ty.cells, List.flatMap_append, Ty.cells_keys]
  | .list t, l => rfl
theorem Ty.cells_length {kn : Bool} : ∀ {t : Ty} {x : t.den}, (t.cells kn x).length = t.size
  | .int _, _ => rfl
  | .bool, _ => rfl
  | .str, _ => rfl
  | .prod a b, _ => by simp [Ty.cells, Ty.size, Ty.cells_length]
  | .list t, l => rfl
theorem Ty.take_is : ∀ {t : Ty} {cs : List CV} {kn : Bool} {x : t.den} {r : List CV}, t.take cs = some (kn, x, r) → ∀ {us : List Value}, csIs own ρ fr w cs us → ∃ us1 us2, us = us1 ++ us2 ∧ t.Is w fr x us1 ∧ csIs own ρ fr w r us2
  | .int k, cs, kn, x, r, h, us, hu => by
    cases cs with
    | nil => simp [Ty.take] at h
    | cons c cs =>
      obtain ⟨u, us', rfl, h1, h2⟩ := hu
      cases c with
      | v k' y =>
        cases y with
        | int k'' n =>
          simp only [Ty.take] at h
          split at h
          · rename_i hk
            have hk := of_decide_eq_true hk
            simp only [Option.some.injEq, Prod.mk.injEq] at h
            obtain ⟨_, rfl, rfl⟩ := h
            simp only [CV.is] at h1
            subst h1; subst hk
            exact ⟨[_], us', rfl, rfl, h2⟩
          · cases h
        | _ => simp [Ty.take] at h
      | _ => simp [Ty.take] at h
  | .bool, cs, kn, x, r, h, us, hu => by
    cases cs with
    | nil => simp [Ty.take] at h
    | cons c cs =>
      obtain ⟨u, us', rfl, h1, h2⟩ := hu
      cases c with
      | v k' y =>
        cases y with
        | bool b =>
          simp only [Ty.take, Option.some.injEq, Prod.mk.injEq] at h
          obtain ⟨_, rfl, rfl⟩ := h
          simp only [CV.is] at h1
          subst h1
          exact ⟨[_], us', rfl, rfl, h2⟩
        | _ => simp [Ty.take] at h
      | _ => simp [Ty.take] at h
  | .str, cs, kn, x, r, h, us, hu => by
    cases cs with
    | nil => simp [Ty.take] at h
    | cons c cs =>
      obtain ⟨u, us', rfl, h1, h2⟩ := hu
      cases c with
      | v k' y =>
        cases y with
        | string b =>
          simp only [Ty.take, Option.some.injEq, Prod.mk.injEq] at h
          obtain ⟨_, rfl, rfl⟩ := h
          simp only [CV.is] at h1
          subst h1
          exact ⟨[_], us', rfl, rfl, h2⟩
        | _ => simp [Ty.take] at h
      | _ => simp [Ty.take] at h
  | .list t, cs, kn, x, r, h, us, hu => by
    cases cs with
    | nil => simp [Ty.take] at h
    | cons c cs =>
      obtain ⟨u, us', rfl, h1, h2⟩ := hu
      cases c with
      | d kl kn' t' l' =>
        simp only [Ty.take] at h
        split at h
        · rename_i e
          subst e
          simp only [Option.some.injEq, Prod.mk.injEq] at h
          obtain ⟨_, rfl, rfl⟩ := h
          exact ⟨[u], us', rfl, h1, h2⟩
        · cases h
      | v k' y =>
        cases y with
        | slice a n c =>
          cases a with
          | some a => simp [Ty.take] at h
          | none =>
            cases n with
            | succ n => simp [Ty.take] at h
            | zero =>
              cases c with
              | succ c => simp [Ty.take] at h
              | zero =>
                simp only [Ty.take, Option.some.injEq, Prod.mk.injEq] at h
                obtain ⟨_, rfl, rfl⟩ := h
                simp only [CV.is] at h1
                subst h1
                exact ⟨[_], us', rfl, ⟨none, 0, rfl, Nat.le_refl _, by simp [maxLen], fun h => absurd rfl h⟩, h2⟩
        | _ => simp [Ty.take] at h
      | _ => simp [Ty.take] at h
  | .prod a b, cs, kn, x, r, h, us, hu => by
    simp only [Ty.take] at h
    split at h
    · rename_i k1 x1 r1 h1
      obtain ⟨ua, ur, rfl, ha, hr⟩ := Ty.take_is h1 hu
      split at h
      · rename_i k2 x2 r2 h2
        obtain ⟨ub, ur2, rfl, hb, hr2⟩ := Ty.take_is h2 hr
        simp only [Option.some.injEq, Prod.mk.injEq] at h
        obtain ⟨_, rfl, rfl⟩ := h
        exact ⟨ua ++ ub, ur2, by simp, ⟨ua, ub, rfl, ha, hb⟩, hr2⟩
      · cases h
    · cases h
theorem Ty.take1_is {t : Ty} {cs : List CV} {kn : Bool} {x : t.den} (h : t.take1 cs = some (kn, x)) {us : List Value} (hu : csIs own ρ fr w cs us) : t.Is w fr x us := by
  unfold Ty.take1 at h
  split at h
  · rename_i k y hh
    simp only [Option.some.injEq, Prod.mk.injEq] at h
    obtain ⟨_, rfl⟩ := h
    obtain ⟨u1, u2, rfl, h1, h2⟩ := Ty.take_is hh hu
    cases h2
    rwa [List.append_nil]
  · cases h
end
end Go.Proofs.Ytacgchandefjgaa
