/-
  What every walk of this seat ends in: 'Ext w w'': the world behind the call is the one before it, with at most new blocks and draws. With it the last step of a row. No program is named here.
-/
import Derived.WalkKit
import Derived.Below
import Derived.ChangeSame
import Derived.Deep.Draws
import Derived.Sort.Grow
import Derived.Lib.LaidTab
namespace Go.Proofs.Ytacgchandefjgaa
open Go.RowKit Go.WideShapes Go.ChangeShapes Go.Sort
/-- New blocks and draws at most. -/
structure Ext (w w' : World) : Prop extends Below w.heap.size w w' where
  drawn : w.drawn ≤ w'.drawn
instance {w w' : World} : CoeOut (Ext w w') (Below w.heap.size w w') := ⟨Ext.toBelow⟩
theorem Ext.refl (w : World) : Ext w w := ⟨Below.refl _ _, Nat.le_refl _⟩
theorem Ext.trans {a b c : World} (h : Ext a b) (k : Ext b c) : Ext a c := ⟨h.toBelow.trans (Below.mono k.toBelow h.size), Nat.le_trans h.drawn k.drawn⟩
theorem Ext.drewN {a b : World} (h : Ext a b) (n : Nat) : Ext a (b.drewN n) := ⟨⟨h.os, h.tape, h.output, h.size, h.block⟩, Nat.le_trans h.drawn (Nat.le_add_right _ _)⟩
theorem Ext.drew {a b : World} (h : Ext a b) : Ext a b.drew := ⟨Below.drew h.toBelow, Nat.le_trans h.drawn (Nat.le_add_right _ _)⟩
theorem Ext.alloc {a b : World} (h : Ext a b) (o : Obj) : Ext a (b.alloc o) := ⟨Below.alloc h.toBelow h.size o, h.drawn⟩
theorem Ext.grown {w w' : World} (h : Ext w w') : ∃ q os, w' = grow (w.drewN q) os := by
  refine ⟨w'.drawn - w.drawn, w'.heap.extract w.heap.size w'.heap.size, ?_⟩
  have hd := h.drawn
  have hh : w'.heap = w.heap ++ w'.heap.extract w.heap.size w'.heap.size := by
    have hs := h.size
    apply Array.ext_getElem?
    intro i
    by_cases hi : i < w.heap.size
    · rw [Array.getElem?_append_left hi]; exact h.block i hi
    · rw [Array.getElem?_append_right (by omega)]
      simp only [Array.getElem?_extract, Nat.min_self]
      by_cases hi' : i < w'.heap.size
      · have e : w.heap.size + (i - w.heap.size) = i := by omega
        rw [if_pos (by omega), e]
      · rw [if_neg (by omega), Array.getElem?_eq_none (by omega)]
  have e1 := h.os; have e2 := h.tape; have e3 := h.output
  cases w' with
  | mk heap tape drawn os output =>
    unfold grow World.drewN
    simp only at hh e1 e2 e3 hd ⊢
    rw [← hh, e1, e2, e3, Nat.add_sub_cancel' hd]
theorem Ext.grow {a b : World} (h : Ext a b) (os : Array Obj) : Ext a (grow b os) := by
  refine h.trans ⟨⟨rfl, rfl, rfl, ?_, fun k hk => ?_⟩, Nat.le_refl _⟩
  · show b.heap.size ≤ (b.heap ++ os).size
    simp
  · show (b.heap ++ os)[k]? = b.heap[k]?
    rw [Array.getElem?_append_left hk]
theorem Ext.var? {w w' : World} {P : Program} {s : String} {x : Array Value} (h : Ext w w') (hx : w.var? P s = some x) : w'.var? P s = some x := by
  unfold World.var? at *
  cases hg : P.globalNamed s with
  | none => rw [hg] at hx; cases hx
  | some g =>
    rw [hg] at hx
    simp only [Option.bind_some] at hx ⊢
    have hlt : g < w.heap.size := by
      rcases Nat.lt_or_ge g w.heap.size with h' | h'
      · exact h'
      · rw [Array.getElem?_eq_none h'] at hx; cases hx
    rw [h.block g hlt]
    exact hx
theorem Ext.tab {w w' : World} {P : Program} {s : String} {k : IntKind} {zs : List Int} (h : Ext w w') (hx : Lib.TabIs P w s k zs) : Lib.TabIs P w' s k zs := h.var? hx
section
variable {H : Type} {enc : TypeId × Value → H} {P : Program}
theorem post_of_below {f : Func} {s : ChangeSpec} {apart fresh handsOn again : Bool} {W W' : World} {args : Array Value} {v : Value} {ds gs : List (DataW H)} {before pa pv : List MemPlace}
    (hW : DataW.Whole enc P f.params.toList s.vars apart W args.toList ds gs before)
    (hres : ∀ (b : Nat) (sp : Nat → Bool) (hd : Bool), DataW.TrodAll enc P W' b sp hd f.resultTypes.toList (v.resultList f.resultTypes.size) (s.fn H (ds ++ gs)).results [])
    (hargs : ∀ sp : Nat → Bool, (∀ p ∈ before, sp p.block = true) → DataW.TrodAll enc P W' 0 sp true f.params.toList args.toList (s.fn H (ds ++ gs)).args pa)
    (hvars : ∀ sp : Nat → Bool, (∀ p ∈ before, sp p.block = true) → DataW.TrodVars enc P W' sp s.vars (s.fn H (ds ++ gs)).vars pv)
    (hps : before = pa ++ pv) (hb : Ext W W')
    (hok : ∀ (j : Nat) (t : TypeId) (r : Value), f.resultTypes[j]? = some t → (v.resultList f.resultTypes.size)[j]? = some r → Value.okWide P W' .any 0 t r) :
    s.post enc P f apart fresh handsOn again W args v W' := by
  have hlt : ∀ p ∈ before, p.block < W.heap.size := fun p hp => hW.lt p hp
  have hold : ∀ p ∈ before, (fun b => decide (b < W.heap.size)) p.block = true := fun p hp => by simpa using hlt p hp
  refine ⟨ds, gs, before, [], pa, pv, hW, hres _ _ _, hargs _ hold, hvars _ hold, World.keptBut_mono (fun p hp => ⟨hp, ?_⟩) (hb.frame (· ∈ before)), fun _ => ?_⟩
  · rw [hps, List.mem_append] at hp
    exact Or.inr hp
  · obtain ⟨_, _, _, _, _, hz, hn⟩ := hW
    refine ⟨hok, _, _, ([] ++ pa) ++ pv, ⟨[] ++ pa, pv, trodAll_append (hargs _ (fun _ _ => rfl)) (hres _ _ _), hvars _ (fun _ _ => rfl), rfl, ?_, ?_⟩, ?_⟩
    · intro b off hp
      have hin : MemPlace.cell b off ∈ before := by rw [hps]; simpa using hp
      rw [hb.frozen (hlt _ hin)]
      exact hz b off hin
    · intro ha
      have := hn ha
      rw [hps] at this
      simpa using this
    · intro p hp _
      rw [hps]
      simpa using hp
end
end Go.Proofs.Ytacgchandefjgaa
