/-
  A law's arguments opened: values of types without pointers, maps, functions: what their cells hold, as data of the evaluator. No program is named here.
-/
import Derived.Test.YtacgchandefjgaaFvV
import Derived.Test.YtacgchandefjgaaFlat
import Derived.Deep.Slices
namespace Go.Proofs.Ytacgchandefjgaa
open Go Go.RowKit Go.WideShapes Go.ChangeShapes
def itemsTy (P : Program) (look : TypeId → Option Ty) : List (Nat × TypeId) → Nat → Option (List Ty)
  | [], _ => some []
  | x :: l, off =>
    if x.1 = off then
      match look x.2 with
      | some t => if t.size = P.cellsOf x.2 then (match itemsTy P look l (off + t.size) with | some ts => some (t :: ts) | none => none) else none
      | none => none
    else none
def sizedTy (P : Program) (t : TypeId) (o : Option (List Ty)) : Option Ty :=
  match o.bind prods with
  | some u => if u.size = P.cellsOf t then some u else none
  | none => none
/-- The data of a type's values. -/
def argTy (P : Program) : Nat → TypeId → Option Ty
  | 0, _ => none
  | n + 1, t =>
    match P.underlying t with
    | some .bool => some .bool
    | some (.int k) => some (.int k)
    | some .string => some .str
    | some (.slice e) => (match argTy P n e with | some u => if u.size = P.cellsOf e then some (.list u) else none | none => none)
    | some (.struct fs) => sizedTy P t (itemsTy P (argTy P n) (fs.toList.map fun f => (f.offset, f.type)) 0)
    | some (.array m e) => sizedTy P t (itemsTy P (argTy P n) ((List.range m).map fun i => (i * P.cellsOf e, e)) 0)
    | _ => none
/-- Ints in their kinds' ranges; strings and slices no longer than may be. -/
def Ty.InR : (t : Ty) → t.den → Prop
  | .int k, x => (Lit.int k x).wf = true
  | .bool, _ => True
  | .str, s => ByteArray.size s ≤ maxLen
  | .prod a b, x => a.InR x.1 ∧ b.InR x.2
  | .list t, (l : List t.den) => l.length ≤ maxLen ∧ ∀ x ∈ l, t.InR x
section
variable {H : Type} {enc : TypeId × Value → H} {P : Program}
def GoodTy (enc : TypeId × Value → H) (P : Program) (W : World) (base : Nat) (sp : Nat → Bool) (hd : Bool) (n : Nat) (look : TypeId → Option Ty) : Prop :=
  ∀ t u cs x, look t = some u → DataW.trod enc P W base sp hd n t cs = some x → ∃ d : u.den, u.Is W (fun b => b < W.heap.size) d cs ∧ u.InR d
theorem itemsTy_good {W : World} {base : Nat} {sp : Nat → Bool} {hd : Bool} {n : Nat} {look : TypeId → Option Ty} (G : GoodTy enc P W base sp hd n look) {cs : List Value} :
    ∀ (l : List (Nat × TypeId)) (off : Nat) (ts : List Ty) (u : Ty) (xs : List (DataW H × List MemPlace)), itemsTy P look l off = some ts → prods ts = some u →
      l.mapM (fun x => DataW.trod enc P W base sp hd n x.2 ((cs.drop x.1).take (P.cellsOf x.2))) = some xs →
      ∃ d : u.den, u.Is W (fun b => b < W.heap.size) d ((cs.drop off).take u.size) ∧ u.InR d := by
  intro l
  induction l with
  | nil =>
    intro off ts u xs hk hu hx
    simp [itemsTy] at hk
    subst hk
    cases hu
  | cons y l ih =>
    intro off ts u xs hk hu hx
    unfold itemsTy at hk
    split at hk
    · rename_i hoff
      cases hl : look y.2 with
      | none => rw [hl] at hk; cases hk
      | some t1 =>
        rw [hl] at hk
        simp only at hk
        split at hk
        · rename_i hlen
          cases hi : itemsTy P look l (off + t1.size) with
          | none => rw [hi] at hk; cases hk
          | some ts2 =>
            rw [hi] at hk
            simp only [Option.some.injEq] at hk
            subst hk
            rw [List.mapM_cons] at hx
            cases h1 : DataW.trod enc P W base sp hd n y.2 ((cs.drop y.1).take (P.cellsOf y.2)) with
            | none => rw [h1] at hx; cases hx
            | some x1 =>
              rw [h1] at hx
              cases h2 : l.mapM (fun x => DataW.trod enc P W base sp hd n x.2 ((cs.drop x.1).take (P.cellsOf x.2))) with
              | none => rw [h2] at hx; cases hx
              | some x2 =>
                obtain ⟨d1, i1, r1⟩ := G _ _ _ _ hl h1
                rw [hoff, ← hlen] at i1
                cases ts2 with
                | nil =>
                  simp only [prods, Option.some.injEq] at hu
                  subst hu
                  exact ⟨d1, i1, r1⟩
                | cons t2 ts2 =>
                  simp only [prods, Option.map_eq_some_iff] at hu
                  obtain ⟨u2, hu2, rfl⟩ := hu
                  obtain ⟨d2, i2, r2⟩ := ih _ _ u2 _ hi hu2 h2
                  refine ⟨(d1, d2), ⟨_, _, ?_, i1, i2⟩, r1, r2⟩
                  simp only [Ty.size]
                  rw [List.take_add, List.drop_drop]
        · cases hk
    · cases hk
theorem sizedTy_some {t : TypeId} {o : Option (List Ty)} {u : Ty} (h : sizedTy P t o = some u) : ∃ ts, o = some ts ∧ prods ts = some u ∧ u.size = P.cellsOf t := by
  unfold sizedTy at h
  split at h
  · rename_i u' hu
    obtain ⟨ts, h1, h2⟩ := Option.bind_eq_some_iff.1 hu
    split at h
    · cases h; exact ⟨ts, h1, h2, by assumption⟩
    · cases h
  · cases h
theorem cell?_block {W : World} {a : Addr} {x : Value} (h : W.cell? a = some x) : a.block < W.heap.size := by
  unfold World.cell? at h
  apply Classical.byContradiction
  intro hn
  rw [Array.getElem?_eq_none (by omega)] at h
  cases h
theorem argTy_good {W : World} {base : Nat} {sp : Nat → Bool} {hd : Bool} : ∀ m n : Nat, GoodTy enc P W base sp hd n (argTy P m) := by
  intro m
  induction m with
  | zero => intro n t u cs x hk h; cases hk
  | succ m ih =>
    intro n t u cs x hk h
    cases n with
    | zero => simp [DataW.trod] at h
    | succ n =>
      unfold argTy at hk
      split at hk
      · rename_i hu
        cases hk
        obtain ⟨b, rfl, rfl⟩ := DataW.trod_bool hu h
        exact ⟨b, rfl, trivial⟩
      · rename_i k hu
        cases hk
        obtain ⟨b, rfl, rfl, w⟩ := DataW.trod_int hu h
        exact ⟨b, rfl, w⟩
      · rename_i hu
        cases hk
        obtain ⟨b, rfl, rfl, w⟩ := DataW.trod_string hu h
        exact ⟨b, rfl, w⟩
      · rename_i e hu
        split at hk
        · rename_i u1 he
          split at hk
          · rename_i hsz
            cases hk
            rcases Go.Deep.open_slice (e := e) hu h with ⟨hc, _⟩ | ⟨a, len, cap, m1, n1, D, Pl, hc, hb, hl, hcap, hm, _, hx⟩
            · subst hc
              exact ⟨([] : List u1.den), ⟨none, 0, rfl, Nat.zero_le _, Nat.zero_le _, fun h => absurd rfl h⟩, Nat.zero_le _, fun x hx => by cases hx⟩
            · subst hc
              have hlm : len ≤ m1 := by rw [hm]; split <;> omega
              have each : ∀ i, i < len → ∃ d : u1.den, u1.InR d ∧ ∃ us, u1.Is W (fun b => b < W.heap.size) d us ∧ us.length = u1.size ∧ ∀ j x, us[j]? = some x → W.cell? ((a.add (i * u1.size)).add j) = some x := by
                intro i hi
                obtain ⟨cs', h1, h2⟩ := hx i (by omega)
                obtain ⟨d, i1, r1⟩ := ih n1 _ _ _ _ he h2
                rw [← hsz] at h1
                obtain ⟨_, hlen, hcell⟩ := World.cells?_some h1
                refine ⟨d, r1, cs', i1, i1.length, fun j x hj => ?_⟩
                have hj' := (List.getElem?_eq_some_iff.1 hj)
                obtain ⟨hlt, rfl⟩ := hj'
                have := hcell j (by omega)
                rw [this]
                exact hj
              haveI : Inhabited u1.den := ⟨u1.dflt⟩
              obtain ⟨f, hf⟩ := Go.Deep.choose_lt each
              refine ⟨((List.range len).map f : List u1.den), ⟨some a, cap, by simp, by simpa using hl, hcap, fun hn => ?_⟩, by simpa using Nat.le_trans hl hcap, fun x hx => ?_⟩
              · have h0 : 0 < len := by
                  rcases Nat.eq_zero_or_pos len with h0 | h0
                  · subst h0; exact absurd rfl hn
                  · exact h0
                obtain ⟨b, o, spot⟩ := a
                have hspot : spot = none ∧ b < W.heap.size := by
                  obtain ⟨_, us, _, hlen, hcell⟩ := hf 0 h0
                  have hp := u1.size_pos
                  have := hcell 0 us[0] (List.getElem?_eq_getElem (by omega))
                  refine ⟨by simpa [Addr.add] using World.cell?_spot this, ?_⟩
                  have := cell?_block this
                  simpa [Addr.add] using this
                obtain ⟨rfl, hbl⟩ := hspot
                refine ⟨b, o, rfl, hbl, fun i x hi => ?_⟩
                have hin : i < len := by
                  have := (List.getElem?_eq_some_iff.1 hi).1
                  simpa using this
                have e : f i = x := by simpa [hin] using hi
                subst e
                obtain ⟨_, us, h1, _, hcell⟩ := hf i hin
                refine ⟨us, h1, fun j v hj => ?_⟩
                have := hcell j v hj
                rw [Go.WideShapes.add_plain, Go.WideShapes.add_plain] at this
                exact this
              · obtain ⟨i, hi, rfl⟩ := List.mem_map.1 hx
                exact (hf i (List.mem_range.1 hi)).1
          · cases hk
        · cases hk
      · rename_i fs hu
        obtain ⟨ts, hi, hp, hsz⟩ := sizedTy_some hk
        obtain ⟨xs, hl, hxs, hx⟩ : ∃ xs, cs.length = P.cellsOf t ∧ fs.toList.mapM (fun f => DataW.trod enc P W base sp hd n f.type ((cs.drop f.offset).take (P.cellsOf f.type))) = some xs ∧ x = (.agg (xs.map (·.1)), xs.flatMap (·.2)) := by
          unfold DataW.trod at h
          rw [hu] at h
          simp only at h
          split at h
          · rename_i hl
            rw [Option.map_eq_some_iff] at h
            obtain ⟨xs, h1, h2⟩ := h
            exact ⟨xs, hl, h1, h2.symm⟩
          · cases h
        obtain ⟨d, g1, g2⟩ := itemsTy_good (ih n) (fs.toList.map fun f => (f.offset, f.type)) 0 ts u xs hi hp (by rw [List.mapM_map]; exact hxs)
        rw [List.drop_zero, hsz, ← hl, List.take_length] at g1
        exact ⟨d, g1, g2⟩
      · rename_i l e hu
        obtain ⟨ts, hi, hp, hsz⟩ := sizedTy_some hk
        obtain ⟨xs, hl, hxs, hx⟩ : ∃ xs, cs.length = P.cellsOf t ∧ (List.range l).mapM (fun i => DataW.trod enc P W base sp hd n e ((cs.drop (i * P.cellsOf e)).take (P.cellsOf e))) = some xs ∧ x = (.agg (xs.map (·.1)), xs.flatMap (·.2)) := by
          unfold DataW.trod at h
          rw [hu] at h
          simp only at h
          split at h
          · rename_i hl
            rw [Option.map_eq_some_iff] at h
            obtain ⟨xs, h1, h2⟩ := h
            exact ⟨xs, hl, h1, h2.symm⟩
          · cases h
        obtain ⟨d, g1, g2⟩ := itemsTy_good (ih n) ((List.range l).map fun i => (i * P.cellsOf e, e)) 0 ts u xs hi hp (by rw [List.mapM_map]; exact hxs)
        rw [List.drop_zero, hsz, ← hl, List.take_length] at g1
        exact ⟨d, g1, g2⟩
      · cases hk
/-- A value that came in: what its cells hold. -/
theorem open_ty {W : World} {base : Nat} {sp : Nat → Bool} {hd : Bool} {t : TypeId} {v : Value} {d : DataW H} {p : List MemPlace} (m : Nat) (u : Ty) (hk : argTy P m t = some u) (h : DataW.Trod enc P W base sp hd t v d p) :
    ∃ x : u.den, u.Is W (fun b => b < W.heap.size) x v.cells.toList ∧ u.InR x := by
  obtain ⟨fuel, hf⟩ := h
  exact argTy_good m fuel t u _ _ hk hf
theorem ty_agg {W W' : World} {fr : Nat → Prop} {r : Reach} {b0 : Nat} {t : TypeId} {v : Value} {u : Ty} {x : u.den} (ha : (match P.underlying t with | some (.struct _) => true | some (.array _ _) => true | _ => false) = true) (hv : Value.okWide P W r b0 t v) (h : u.Is W' fr x v.cells.toList) (kn : Bool) :
    (AV.ag (u.cells kn x)).is [] (fun _ => none) fr W' v := by
  obtain ⟨l, rfl⟩ := okWide_agg ha hv
  exact ⟨l, rfl, Ty.cells_is (by simpa [Value.cells] using h)⟩
theorem ty_one {W W' : World} {fr : Nat → Prop} {r : Reach} {b0 : Nat} {t e : TypeId} {v : Value} {u : Ty} {x : (Ty.list u).den} (ha : P.underlying t = some (.slice e)) (hv : Value.okWide P W r b0 t v) (h : (Ty.list u).Is W' fr x v.cells.toList) (kn kl : Bool) :
    (AV.one (.d kl kn u x)).is [] (fun _ => none) fr W' v := by
  obtain ⟨a1, n1, c1, rfl⟩ := okWide_slice (e := e) ha hv
  show (Ty.list u).Is W' fr x [_]
  simpa [Value.cells] using h
end
end Go.Proofs.Ytacgchandefjgaa
