/-
  Arguments that are flat: ints, bools, strings, and structs and arrays of these, by value: opened to their cells, and read again in any world. No program is named here.
-/
import Derived.WalkKit
import Derived.OpenShut
import Derived.WideShapes
namespace Go.Proofs.Ytacgchandefjgaa
open Go.RowKit Go.WideShapes Go.ChangeShapes
/-- What one cell of a flat value holds. -/
inductive Kd where
  | int (k : IntKind)
  | bool
  | str
def itemsKinds (P : Program) (look : TypeId → Option (List Kd)) : List (Nat × TypeId) → Nat → Option (List Kd)
  | [], _ => some []
  | x :: l, off =>
    if x.1 = off then
      match look x.2 with
      | some ks => if ks.length = P.cellsOf x.2 then (match itemsKinds P look l (off + ks.length) with | some ls => some (ks ++ ls) | none => none) else none
      | none => none
    else none
def sized (P : Program) (t : TypeId) (o : Option (List Kd)) : Option (List Kd) :=
  match o with
  | some ks => if ks.length = P.cellsOf t then some ks else none
  | none => none
/-- The kinds of a flat type's cells, in their order. -/
def kinds (P : Program) : Nat → TypeId → Option (List Kd)
  | 0, _ => none
  | n + 1, t =>
    match P.underlying t with
    | some .bool => some [.bool]
    | some (.int k) => some [.int k]
    | some .string => some [.str]
    | some (.struct fs) => sized P t (itemsKinds P (kinds P n) (fs.toList.map fun f => (f.offset, f.type)) 0)
    | some (.array m e) => sized P t (itemsKinds P (kinds P n) ((List.range m).map fun i => (i * P.cellsOf e, e)) 0)
    | _ => none
/-- The cells are of these kinds, and in their ranges. -/
def Fit : List Kd → List Value → Prop
  | [], cs => cs = []
  | .int k :: ks, cs => ∃ (n : Int) (l : List Value), cs = .int k n :: l ∧ (Lit.int k n).wf = true ∧ Fit ks l
  | .bool :: ks, cs => ∃ (b : Bool) (l : List Value), cs = .bool b :: l ∧ Fit ks l
  | .str :: ks, cs => ∃ (s : ByteArray) (l : List Value), cs = .string s :: l ∧ s.size ≤ maxLen ∧ Fit ks l
theorem Fit.append : ∀ {k1 k2 : List Kd} {c1 c2 : List Value}, Fit k1 c1 → Fit k2 c2 → Fit (k1 ++ k2) (c1 ++ c2)
  | [], _, _, _, h1, h2 => by cases h1; exact h2
  | .int _ :: _, _, _, _, ⟨n, l, e, w, h⟩, h2 => by subst e; exact ⟨n, l ++ _, rfl, w, Fit.append h h2⟩
  | .bool :: _, _, _, _, ⟨b, l, e, h⟩, h2 => by subst e; exact ⟨b, l ++ _, rfl, Fit.append h h2⟩
  | .str :: _, _, _, _, ⟨s, l, e, w, h⟩, h2 => by subst e; exact ⟨s, l ++ _, rfl, w, Fit.append h h2⟩
section
variable {H : Type} {enc : TypeId × Value → H} {P : Program}
/-- What is asked of a reading at one type: its cells fit, it leads nowhere, and it is the same in every world. -/
def Good (enc : TypeId × Value → H) (P : Program) (W : World) (base : Nat) (sp : Nat → Bool) (hd : Bool) (n : Nat) (look : TypeId → Option (List Kd)) : Prop :=
  ∀ t ks cs x, look t = some ks → DataW.trod enc P W base sp hd n t cs = some x → Fit ks cs ∧ x.2 = [] ∧ ∀ W' base' sp' hd', DataW.trod enc P W' base' sp' hd' n t cs = some x
theorem items_good {W : World} {base : Nat} {sp : Nat → Bool} {hd : Bool} {n : Nat} {look : TypeId → Option (List Kd)} (G : Good enc P W base sp hd n look) {cs : List Value} :
    ∀ (l : List (Nat × TypeId)) (off : Nat) (ks : List Kd) (xs : List (DataW H × List MemPlace)), itemsKinds P look l off = some ks →
      l.mapM (fun x => DataW.trod enc P W base sp hd n x.2 ((cs.drop x.1).take (P.cellsOf x.2))) = some xs →
      Fit ks ((cs.drop off).take ks.length) ∧ xs.flatMap (·.2) = [] ∧
        ∀ W' base' sp' hd', l.mapM (fun x => DataW.trod enc P W' base' sp' hd' n x.2 ((cs.drop x.1).take (P.cellsOf x.2))) = some xs := by
  intro l
  induction l with
  | nil =>
    intro off ks xs hk hx
    simp [itemsKinds] at hk
    simp at hx
    subst hk; subst hx
    exact ⟨rfl, rfl, fun _ _ _ _ => by simp⟩
  | cons y l ih =>
    intro off ks xs hk hx
    unfold itemsKinds at hk
    split at hk
    · rename_i hoff
      cases hl : look y.2 with
      | none => rw [hl] at hk; cases hk
      | some k1 =>
        rw [hl] at hk
        simp only at hk
        split at hk
        · rename_i hlen
          cases hi : itemsKinds P look l (off + k1.length) with
          | none => rw [hi] at hk; cases hk
          | some k2 =>
            rw [hi] at hk
            simp only [Option.some.injEq] at hk
            subst hk
            rw [List.mapM_cons] at hx
            cases h1 : DataW.trod enc P W base sp hd n y.2 ((cs.drop y.1).take (P.cellsOf y.2)) with
            | none => rw [h1] at hx; cases hx
            | some x1 =>
              rw [h1] at hx
              cases h2 : l.mapM (fun x => DataW.trod enc P W base sp hd n x.2 ((cs.drop x.1).take (P.cellsOf x.2))) with
              | none => rw [h2] at hx; cases hx
              | some x2 =>
                rw [h2] at hx
                cases hx
                obtain ⟨f1, p1, g1⟩ := G _ _ _ _ hl h1
                obtain ⟨f2, p2, g2⟩ := ih _ _ _ hi h2
                rw [hoff, ← hlen] at f1
                refine ⟨?_, ?_, fun W' base' sp' hd' => ?_⟩
                · rw [List.length_append, List.take_add, List.drop_drop]
                  exact f1.append f2
                · simp [p1] at p2 ⊢; exact p2
                · rw [List.mapM_cons, g1 W' base' sp' hd', g2 W' base' sp' hd']; rfl
        · cases hk
    · cases hk
theorem sized_some {t : TypeId} {o : Option (List Kd)} {ks : List Kd} (h : sized P t o = some ks) : o = some ks ∧ ks.length = P.cellsOf t := by
  unfold sized at h
  cases o with
  | none => cases h
  | some k0 =>
    simp only at h
    split at h
    · cases h; exact ⟨rfl, by assumption⟩
    · cases h
/-- Every flat type is good. -/
theorem kinds_good {W : World} {base : Nat} {sp : Nat → Bool} {hd : Bool} : ∀ n m : Nat, Good enc P W base sp hd n (kinds P m) := by
  intro n
  induction n with
  | zero => intro m t ks cs x _ h; simp [DataW.trod] at h
  | succ n ih =>
    intro m t ks cs x hk h
    cases m with
    | zero => cases hk
    | succ m =>
      unfold kinds at hk
      split at hk
      · rename_i hu
        cases hk
        obtain ⟨b, rfl, rfl⟩ := DataW.trod_bool hu h
        exact ⟨⟨b, [], rfl, rfl⟩, rfl, fun _ _ _ _ => by simp [DataW.trod, hu]⟩
      · rename_i k hu
        cases hk
        obtain ⟨b, rfl, rfl, w⟩ := DataW.trod_int hu h
        exact ⟨⟨b, [], rfl, w, rfl⟩, rfl, fun _ _ _ _ => by simp [DataW.trod, hu, w]⟩
      · rename_i hu
        cases hk
        obtain ⟨b, rfl, rfl, w⟩ := DataW.trod_string hu h
        exact ⟨⟨b, [], rfl, w, rfl⟩, rfl, fun _ _ _ _ => by simp [DataW.trod, hu, w]⟩
      · rename_i fs hu
        obtain ⟨hi, hlen⟩ := sized_some hk
        obtain ⟨xs, hl, hxs, hx⟩ : ∃ xs, cs.length = P.cellsOf t ∧ fs.toList.mapM (fun f => DataW.trod enc P W base sp hd n f.type ((cs.drop f.offset).take (P.cellsOf f.type))) = some xs ∧ x = (.agg (xs.map (·.1)), xs.flatMap (·.2)) := by
          unfold DataW.trod at h
          rw [hu] at h
          simp only at h
          split at h
          · rename_i hl
            rw [Option.map_eq_some_iff] at h
            obtain ⟨xs, h1, h2⟩ := h
            exact ⟨xs, hl, h1, h2.symm⟩
          · cases h
        obtain ⟨g1, g2, g3⟩ := items_good (ih m) (fs.toList.map fun f => (f.offset, f.type)) 0 ks xs hi (by rw [List.mapM_map]; exact hxs)
        rw [List.drop_zero, hlen, ← hl, List.take_length] at g1
        refine ⟨g1, by rw [hx]; exact g2, fun W' base' sp' hd' => ?_⟩
        have := g3 W' base' sp' hd'
        rw [List.mapM_map] at this
        rw [hx]
        exact trod_struct_mk hu hl this
      · rename_i l e hu
        obtain ⟨hi, hlen⟩ := sized_some hk
        obtain ⟨xs, hl, hxs, hx⟩ : ∃ xs, cs.length = P.cellsOf t ∧ (List.range l).mapM (fun i => DataW.trod enc P W base sp hd n e ((cs.drop (i * P.cellsOf e)).take (P.cellsOf e))) = some xs ∧ x = (.agg (xs.map (·.1)), xs.flatMap (·.2)) := by
          unfold DataW.trod at h
          rw [hu] at h
          simp only at h
          split at h
          · rename_i hl
            rw [Option.map_eq_some_iff] at h
            obtain ⟨xs, h1, h2⟩ := h
            exact ⟨xs, hl, h1, h2.symm⟩
          · cases h
        obtain ⟨g1, g2, g3⟩ := items_good (ih m) ((List.range l).map fun i => (i * P.cellsOf e, e)) 0 ks xs hi (by rw [List.mapM_map]; exact hxs)
        rw [List.drop_zero, hlen, ← hl, List.take_length] at g1
        refine ⟨g1, by rw [hx]; exact g2, fun W' base' sp' hd' => ?_⟩
        have := g3 W' base' sp' hd'
        rw [List.mapM_map] at this
        rw [hx]
        unfold DataW.trod
        rw [hu]
        simp only [hl, if_true, Option.map_eq_some_iff]
        exact ⟨xs, this, rfl⟩
      · cases hk
theorem okWide_agg {W : World} {r : Reach} {b0 : Nat} {t : TypeId} {v : Value} (ha : (match P.underlying t with | some (.struct _) => true | some (.array _ _) => true | _ => false) = true) (h : Value.okWide P W r b0 t v) : ∃ l : List Value, v = .agg l.toArray := by
  unfold Value.okWide at h
  split at ha
  · rename_i hu; simp only [hu] at h; obtain ⟨cs, rfl, _⟩ := h; exact ⟨cs.toList, by simp⟩
  · rename_i hu; simp only [hu] at h; obtain ⟨cs, rfl, _⟩ := h; exact ⟨cs.toList, by simp⟩
  · cases ha
/-- A flat struct or array that came in: its cells fit their kinds; and it reads so in every world. -/
theorem open_flat {W : World} {base : Nat} {sp : Nat → Bool} {hd : Bool} {r : Reach} {b0 : Nat} {t : TypeId} {v : Value} {d : DataW H} {p : List MemPlace} (m : Nat) (ks : List Kd) (hk : kinds P m t = some ks)
    (ha : (match P.underlying t with | some (.struct _) => true | some (.array _ _) => true | _ => false) = true) (hv : Value.okWide P W r b0 t v) (h : DataW.Trod enc P W base sp hd t v d p) :
    ∃ l : List Value, v = .agg l.toArray ∧ p = [] ∧ Fit ks l ∧ ∀ W' base' sp' hd', DataW.Trod enc P W' base' sp' hd' t v d [] := by
  obtain ⟨l, rfl⟩ := okWide_agg ha hv
  obtain ⟨fuel, hf⟩ := h
  obtain ⟨g1, g2, g3⟩ := kinds_good fuel m t ks _ _ hk hf
  simp only at g2
  subst g2
  exact ⟨l, rfl, rfl, by simpa [Value.cells] using g1, fun W' base' sp' hd' => ⟨fuel, g3 W' base' sp' hd'⟩⟩
end
end Go.Proofs.Ytacgchandefjgaa

