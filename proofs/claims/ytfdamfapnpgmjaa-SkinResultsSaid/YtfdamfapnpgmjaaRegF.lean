/-
  Regions: intersections of many, the empty region. No program is named here.
-/
import Derived.Test.YtfdamfapnpgmjaaRegM
namespace Go.Proofs.Ytfdamfapnpgmjaa
theorem sz_nil : szG [] = true := rfl
theorem op1_nil (X : Rg) : opR 1 [] X = [] := by
  cases hx : valGB X
  · unfold opR; rw [hx, Bool.and_false]; rfl
  · exact empty_G (opR_val 1 [] X) fun x y => by rw [opR_mem valG_nil (valGB_iff.1 hx)]; rfl
theorem op0_nil (X : Rg) : opR 0 [] X = [] := by
  cases hx : valGB X
  · unfold opR; rw [hx, Bool.and_false]; rfl
  · exact empty_G (opR_val 0 [] X) fun x y => by rw [opR_mem valG_nil (valGB_iff.1 hx)]; rfl
theorem op2_nil {X : Rg} (h : valG X) : opR 2 X [] = X := val_ext (opR_val _ _ _) h fun x y => by
  rw [opR_mem h valG_nil, opE_2, memG_nil, Bool.or_false]
theorem op0_r {X : Rg} (h : valG X) : opR 0 X [] = X := val_ext (opR_val _ _ _) h fun x y => by
  rw [opR_mem h valG_nil, opE_0, memG_nil]; simp
theorem op1_self {X : Rg} (h : valG X) : opR 1 X X = X := val_ext (opR_val _ _ _) h fun x y => by
  rw [opR_mem h h, opE_1, Bool.and_self]
theorem op0_self {X : Rg} (h : valG X) : opR 0 X X = [] := empty_G (opR_val _ _ _) fun x y => by
  rw [opR_mem h h, opE_0]; cases memG X x y <;> rfl
theorem op1_r (X : Rg) : opR 1 X [] = [] := by
  cases hx : valGB X
  · unfold opR; rw [hx, Bool.false_and]; rfl
  · exact empty_G (opR_val 1 X []) fun x y => by rw [opR_mem (valGB_iff.1 hx) valG_nil, opE_1, memG_nil, Bool.and_false]
/-- A region, cut with the first n of others. -/
noncomputable def foldG (f : Nat → Rg) : Nat → Rg → Rg
  | 0, s => s
  | n + 1, s => opR 1 (foldG f n s) (f n)
theorem foldG_val {f : Nat → Rg} {s : Rg} (hs : valG s) : ∀ n, valG (foldG f n s)
  | 0 => hs
  | _ + 1 => opR_val _ _ _
theorem foldG_nil (f : Nat → Rg) : ∀ n, foldG f n [] = []
  | 0 => rfl
  | n + 1 => by show opR 1 (foldG f n []) (f n) = []; rw [foldG_nil f n, op1_nil]
theorem foldG_congr {f g : Nat → Rg} {s : Rg} : ∀ {n : Nat}, (∀ k, k < n → f k = g k) → foldG f n s = foldG g n s
  | 0, _ => rfl
  | n + 1, h => by
    show opR 1 (foldG f n s) (f n) = opR 1 (foldG g n s) (g n)
    rw [foldG_congr fun k hk => h k (by omega), h n (by omega)]
theorem foldG_mem {f : Nat → Rg} {s : Rg} (hs : valG s) (hf : ∀ k, valG (f k)) (x y : Int) : ∀ n, memG (foldG f n s) x y = true ↔ (memG s x y = true ∧ ∀ k, k < n → memG (f k) x y = true)
  | 0 => ⟨fun h => ⟨h, fun k hk => absurd hk (Nat.not_lt_zero _)⟩, fun h => h.1⟩
  | n + 1 => by
    have ih := foldG_mem hs hf x y n
    show memG (opR 1 (foldG f n s) (f n)) x y = true ↔ _
    rw [opR_mem (foldG_val hs n) (hf n), opE_1, Bool.and_eq_true, ih]
    constructor
    · rintro ⟨⟨h1, h2⟩, h3⟩
      refine ⟨h1, fun k hk => ?_⟩
      rcases (show k < n ∨ k = n by omega) with g | g
      · exact h2 k g
      · subst g; exact h3
    · rintro ⟨h1, h2⟩
      exact ⟨⟨h1, fun k hk => h2 k (by omega)⟩, h2 n (by omega)⟩
/-- Within, in members. -/
theorem sub_iff {A B : Rg} (ha : valG A) (hb : valG B) : opR 0 A B = [] ↔ ∀ x y, memG A x y = true → memG B x y = true := by
  constructor
  · intro h x y hx
    have := opR_mem ha hb 0 x y
    rw [h, memG_nil, opE_0, hx] at this
    simpa using this.symm
  · intro h
    refine empty_G (opR_val _ _ _) fun x y => ?_
    rw [opR_mem ha hb, opE_0]
    cases hx : memG A x y
    · rfl
    · rw [h x y hx]; rfl
theorem cntV_nil : cntV [] = 0 := by unfold cntV; cases valGB [] <;> rfl
/-- Layers. -/
def szL (L : List Rg) : Bool := decide (L.length ≤ 10000) && L.all szG
noncomputable def layG (L : List Rg) (i : Int) : Rg := bif decide (0 ≤ i) && decide (i < (L.length : Int)) then (bif valGB (L.getD i.toNat []) then L.getD i.toNat [] else []) else []
theorem szL_get {L : List Rg} (h : szL L = true) (i : Nat) : szG (L.getD i []) = true := by
  unfold szL at h
  rw [Bool.and_eq_true, List.all_eq_true] at h
  rw [List.getD]
  cases hi : L[i]? with
  | none => rfl
  | some r => exact h.2 r (List.mem_of_getElem? hi)
theorem szL_len {L : List Rg} (h : szL L = true) : L.length ≤ 10000 := by
  unfold szL at h
  rw [Bool.and_eq_true, decide_eq_true_eq] at h
  exact h.1
theorem layG_val (L : List Rg) (i : Int) : valG (layG L i) := by
  unfold layG
  cases decide (0 ≤ i) && decide (i < (L.length : Int))
  · exact valG_nil
  · cases h : valGB (L.getD i.toNat [])
    · exact valG_nil
    · exact valGB_iff.1 h
theorem layG_out {L : List Rg} {i : Int} (h : i < 0 ∨ (L.length : Int) ≤ i) : layG L i = [] := by
  unfold layG
  by_cases h1 : 0 ≤ i
  · rw [decide_eq_false (show ¬ i < (L.length : Int) by omega), Bool.and_false]; rfl
  · rw [decide_eq_false h1, Bool.false_and]; rfl
noncomputable def skN (L : List Rg) (n : Int) : Nat := (min n (L.length : Int)).toNat
noncomputable def skS (L : List Rg) (i t b : Int) : Rg := foldG (fun k => layG L (i - 1 - (k : Int))) (skN L b) (foldG (fun k => layG L (i + 1 + (k : Int))) (skN L t) (layG L i))
noncomputable def skF (L : List Rg) (i t b : Int) : Rg := opR 0 (layG L i) (skS L i t b)
theorem skS_val (L : List Rg) (i t b : Int) : valG (skS L i t b) := foldG_val (foldG_val (layG_val L i) _) _
theorem skF_val (L : List Rg) (i t b : Int) : valG (skF L i t b) := opR_val _ _ _
theorem skS_out {L : List Rg} {i : Int} (t b : Int) (h : i < 0 ∨ (L.length : Int) ≤ i) : skS L i t b = [] := by
  unfold skS
  rw [layG_out h, foldG_nil, foldG_nil]
theorem skS_mem (L : List Rg) (i t b x y : Int) : memG (skS L i t b) x y = true ↔ memG (layG L i) x y = true ∧ (∀ k, k < skN L t → memG (layG L (i + 1 + (k : Int))) x y = true) ∧ ∀ k, k < skN L b → memG (layG L (i - 1 - (k : Int))) x y = true := by
  unfold skS
  rw [foldG_mem (foldG_val (layG_val L i) _) (fun k => layG_val L _), foldG_mem (layG_val L i) (fun k => layG_val L _), and_assoc]
theorem skF_mem (L : List Rg) (i t b x y : Int) : memG (skF L i t b) x y = (memG (layG L i) x y && !memG (skS L i t b) x y) := by
  unfold skF
  rw [opR_mem (layG_val L i) (skS_val L i t b), opE_0]
theorem sk_sub (L : List Rg) (i t b x y : Int) (h : memG (skS L i t b) x y = true) : memG (layG L i) x y = true := ((skS_mem L i t b x y).1 h).1
end Go.Proofs.Ytfdamfapnpgmjaa
