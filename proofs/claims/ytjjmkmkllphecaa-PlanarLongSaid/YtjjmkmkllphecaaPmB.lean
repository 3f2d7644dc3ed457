/-
  Layer 5: the sort, Compact.
-/
import Derived.Test.YtjjmkmkllphecaaProg
import Derived.Test.YtjjmkmkllphecaaFvX
import Derived.Test.YtjjmkmkllphecaaFvZ
import Derived.Test.YtjjmkmkllphecaaAut
import Derived.Test.YtjjmkmkllphecaaRd
import Derived.Test.YtjjmkmkllphecaaPl
import Derived.Test.YtjjmkmkllphecaaShelf
import Derived.Test.YtjjmkmkllphecaaScn
import Derived.Test.YtjjmkmkllphecaaSrt
import Derived.Test.YtjjmkmkllphecaaFrs
import Derived.Test.YtjjmkmkllphecaaPmA
namespace Go.Proofs.Ytjjmkmkllphecaa
open Go
theorem cmpP_lt (p q : Int × Int) : ltOf cmpP p q = decide (p.1 < q.1 ∨ p.1 = q.1 ∧ p.2 < q.2) := by
  unfold ltOf cmpP cm
  by_cases h1 : p.1 < q.1
  · simp [h1]
  · by_cases h2 : q.1 < p.1
    · have : ¬ p.1 = q.1 := by omega
      simp [h1, h2, this]
    · have : p.1 = q.1 := by omega
      by_cases h3 : p.2 < q.2
      · simp [this, h3]
      · by_cases h4 : q.2 < p.2 <;> simp [this, h3, h4]
theorem cmpP_swo : Go.Sort.SWO (ltOf cmpP) where
  irrefl x := by rw [cmpP_lt]; simp
  trans x y z h1 h2 := by rw [cmpP_lt] at *; simp at *; omega
  ntrans x y z h1 h2 := by rw [cmpP_lt] at *; simp at *; omega
theorem cmpP_calls (x y : Int × Int) (W : World) : Calls Try.prog 30 #[.agg #[.int .i64 x.1, .int .i64 x.2], .agg #[.int .i64 y.1, .int .i64 y.2]] W fun e w' => e = .returned (.int .i64 (cmpP x y)) ∧ ∃ q os, w' = Go.Sort.grow (W.drewN q) os := by
  have h := @cpp_ok [.ag [.v true (.int .i64 x.1), .v true (.int .i64 x.2)], .ag [.v true (.int .i64 y.1), .v true (.int .i64 y.2)]] _ rfl _ rfl rfl W (fun _ => False) [.agg #[.int .i64 x.1, .int .i64 x.2], .agg #[.int .i64 y.1, .int .i64 y.2]] (fun _ h => h.elim) ⟨_, _, rfl, ⟨[_, _], rfl, _, _, rfl, rfl, _, _, rfl, rfl, rfl⟩, _, _, rfl, ⟨[_, _], rfl, _, _, rfl, rfl, _, _, rfl, rfl, rfl⟩, rfl⟩
  refine h.mono ?_
  rintro e w' ⟨v, fr', rfl, hx, _, _, _, hv, _⟩
  exact ⟨by rw [show v = _ from hv], hx.grown⟩
noncomputable def hid {α : Type} (x : α) : α := Classical.choose (⟨x, rfl⟩ : ∃ y, y = x)
def spine {α β : Type} (f : Nat → β) : List α → Nat → List β
  | [], _ => []
  | _ :: r, i => f i :: spine f r (i + 1)
noncomputable def srtE {t : Ty} (cf : t.den → t.den → Int) (l : List t.den) (i : Nat) : t.den := hid ((srtL cf l).getD i t.dflt)
/-- The sort, of a list whose length is known: its elements one by one. -/
noncomputable def srtN (g : FuncId) (t : Ty) (cf : t.den → t.den → Int) (st : Stt) : Option (Tr (Ex × Stt)) :=
  match st.tm with
  | [.one (.s _ k 0 none), .one (.fn g' [])] =>
    match Nat.beq g' g, st.own.look k with
    | true, some (.row true _ _ e t' l) => if h : t' = t then some (.br (decide (l.length ≤ 100000)) (.ret (.ret, ⟨[.tup []], st.own.set k (.row true true false e t (spine (srtE cf (h ▸ l)) (h ▸ l) 0)), st.nx⟩)) (.bad 902)) else none
    | _, _ => none
  | _ => none
theorem hid_eq {α : Type} (x : α) : hid x = x := Classical.choose_spec (⟨x, rfl⟩ : ∃ y, y = x)
theorem spine_length {α β : Type} (f : Nat → β) : ∀ (l : List α) (i : Nat), (spine f l i).length = l.length
  | [], _ => rfl
  | _ :: r, i => by simp [spine, spine_length f r]
theorem spine_get {α β : Type} (f : Nat → β) : ∀ (l : List α) (i j : Nat) (h : j < l.length), (spine f l i)[j]'(by rw [spine_length]; exact h) = f (i + j)
  | _ :: r, i, 0, _ => rfl
  | _ :: r, i, j + 1, h => by
    have := spine_get f r (i + 1) j (by simpa using h)
    simp only [spine, List.getElem_cons_succ, this]
    congr 1; omega
theorem spine_srt {t : Ty} {cf : t.den → t.den → Int} (hO : Go.Sort.SWO (ltOf cf)) (l : List t.den) : spine (srtE cf l) l 0 = srtL cf l := by
  have hl := (srtL_ok hO l).1
  refine List.ext_getElem (by rw [spine_length, hl]) fun j h1 h2 => ?_
  rw [spine_get _ _ _ _ (by rw [spine_length] at h1; exact h1), Nat.zero_add]
  unfold srtE
  rw [hid_eq, List.getD_eq_getElem?_getD, List.getElem?_eq_getElem h2]; rfl
noncomputable def pmB_L0 : FuncId → Loops := addL 29 [7] (srtN 30 (.prod (.int .i64) (.int .i64)) cmpP) L0
theorem srtN_eq {g : FuncId} {t : Ty} {cf : t.den → t.den → Int} (hO : Go.Sort.SWO (ltOf cf)) : srtN g t cf = srtK true g t cf := by
  unfold srtN
  simp only [spine_srt hO]
  rfl
theorem pmB_L0_ok : LoopsOK Try.prog pmB_L0 :=
  addO_ok (f := 29) (L0_ok _) (by rw [srtN_eq cmpP_swo]; exact srt_ok (P := Try.prog) (ρf := Try.sort32_ren) Try.sort32 (t := (.prod (.int .i64) (.int .i64))) rfl Try.isAgg23 Try.sizeOf23 (cf := cmpP) cmpP_swo (g := 30) (enters_of Try.func30 (by kernel_rfl) rfl) (fun _ _ _ _ _ _ _ _ x y => cmpP_calls x y _))
def held (h1 h2 : Bool) (p q : Int × Int) : Tr (List (Ty.prod (.int .i64) (.int .i64)).den) := .br h1 (.br h2 (.ret [p, q]) (.ret [p])) (.br h2 (.ret [q]) (.ret []))
set_option maxRecDepth 100000 in
theorem enf_tree (a b c d x0 y0 x1 y1 : Int) : rowT (.prod (.int .i64) (.int .i64)) 23 ((evalB Try.prog pmA_S14 (opens [27, 29, 31]) pmB_L0 8).2 27 [.one (.v false (.func (.func 28) #[.agg #[.int .i64 a, .int .i64 b, .int .i64 c, .int .i64 d]] #[])), .ag [.v false (.int .i64 x0), .v false (.int .i64 y0), .v false (.int .i64 x1), .v false (.int .i64 y1)]] [] 0) = .br (hld a b c d x0 y0) (.br (hld a b c d x1 y1) (.ret (.one (.d false false (.prod (.int .i64) (.int .i64)) ([(x0, y0)] ++ [(x1, y1)])))) (.ret (.one (.d false false (.prod (.int .i64) (.int .i64)) ([(x0, y0)]))))) (.br (hld a b c d x1 y1) (.ret (.one (.d false false (.prod (.int .i64) (.int .i64)) ([(x1, y1)])))) (.ret (.one (.d false false (.prod (.int .i64) (.int .i64)) ([]))))) := by kernel_rfl
set_option maxHeartbeats 4000000 in
theorem enf_val (a b c d x0 y0 x1 y1 : Int) (l : List ((.prod (.int .i64) (.int .i64)) : Ty).den) (hl : (held (hld a b c d x0 y0) (hld a b c d x1 y1) (x0, y0) (x1, y1)).val = some l) : (.br (hld a b c d x0 y0) (.br (hld a b c d x1 y1) (.ret (.one (.d false false (.prod (.int .i64) (.int .i64)) ([(x0, y0)] ++ [(x1, y1)])))) (.ret (.one (.d false false (.prod (.int .i64) (.int .i64)) ([(x0, y0)]))))) (.br (hld a b c d x1 y1) (.ret (.one (.d false false (.prod (.int .i64) (.int .i64)) ([(x1, y1)])))) (.ret (.one (.d false false (.prod (.int .i64) (.int .i64)) ([]))))) : Tr AV).val = some (.one (.d false false (.prod (.int .i64) (.int .i64)) l)) := by
  unfold held at hl
  generalize hld a b c d x0 y0 = A, hld a b c d x1 y1 = B at hl ⊢
  cases A <;> cases B <;> (simp only [Tr.val, cond_true, cond_false, Option.some.injEq] at hl; subst hl; rfl)
def rcvOf (f : FuncId) : AV → Option (List Value)
  | .one (.v _ (.func (.func g) first caps)) =>
    match Nat.beq g f, first.toList, caps.toList with
    | true, [.agg cs], [] => some cs.toList
    | _, _, _ => none
  | _ => none
noncomputable def enf_g (args : List AV) : Option (Tr (List ((.prod (.int .i64) (.int .i64)) : Ty).den)) :=
  match args with
  | [x, .ag [.v _ (.int .i64 x0), .v _ (.int .i64 y0), .v _ (.int .i64 x1), .v _ (.int .i64 y1)]] =>
    match rcvOf 28 x with
    | some [.int .i64 a, .int .i64 b, .int .i64 c, .int .i64 d] => some (held (hld a b c d x0 y0) (hld a b c d x1 y1) (x0, y0) (x1, y1))
    | _ => none
  | _ => none
noncomputable def pmB_L9 : FuncId → Loops := addL 27 [7] (rowM true (.prod (.int .i64) (.int .i64)) 23 enf_g) pmB_L0
theorem rcvOf_some {f : FuncId} {x : AV} {l : List Value} (h : rcvOf f x = some l) : ∃ kn, x = .one (.v kn (.func (.func f) #[.agg l.toArray] #[])) := by
  unfold rcvOf at h
  split at h
  · rename_i kn g first caps
    split at h
    · rename_i cs hg h1 h2
      have hg := Nat.eq_of_beq_eq_true hg
      subst hg
      simp only [Option.some.injEq] at h
      subst h
      have e1 : first = #[.agg cs] := by apply Array.ext'; simpa using h1
      have e2 : caps = #[] := by apply Array.ext'; simpa using h2
      exact ⟨kn, by rw [e1, e2]⟩
    · cases h
  · cases h
set_option maxHeartbeats 4000000 in
theorem enf_new : OpenOK Try.prog 27 (rowM true (.prod (.int .i64) (.int .i64)) 23 enf_g) :=
  newRow_ok (evalB_sound (On := (opens [27, 29, 31])) (by kernel_rfl) (pmA_S14_ok) (pmB_L0_ok) 8).2 0 (fun args T h => by
    unfold enf_g at h
    split at h
    · rename_i x _ x0 _ y0 _ x1 _ y1
      split at h
      · rename_i a b c d hx
        obtain ⟨kn, rfl⟩ := rcvOf_some hx
        simp only [Option.some.injEq] at h
        subst h
        refine ⟨[.one (.v false (.func (.func 28) #[.agg #[.int .i64 a, .int .i64 b, .int .i64 c, .int .i64 d]] #[])), .ag [.v false (.int .i64 x0), .v false (.int .i64 y0), .v false (.int .i64 x1), .v false (.int .i64 y1)]], rfl, fun fr w us h => h, fun l hl => ?_⟩
        rw [enf_tree]
        exact enf_val a b c d x0 y0 x1 y1 l hl
      · cases h
    · cases h)
theorem pmB_L9_ok : LoopsOK Try.prog pmB_L9 := addO_ok (f := 27) (pmB_L0_ok) enf_new
end Go.Proofs.Ytjjmkmkllphecaa
