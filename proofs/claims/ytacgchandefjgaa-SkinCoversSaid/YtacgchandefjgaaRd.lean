/-
  States taken apart cell by cell. No program is named here.
-/
import Derived.Test.YtacgchandefjgaaFvZ
namespace Go.Proofs.Ytacgchandefjgaa
open Go
section
variable {R α : Type}
def zrT (b : Bool) (f : Option R) : Option R := match b with | true => f | false => none
theorem zrT_some {b : Bool} {f : Option R} {r : R} (h : zrT b f = some r) : b = true ∧ f = some r := by
  cases b
  · cases h
  · exact ⟨rfl, h⟩
def zrL (l : List α) (f : α → List α → Option R) : Option R := match l with | a :: t => f a t | [] => none
theorem zrL_some {l : List α} {f : α → List α → Option R} {r : R} (h : zrL l f = some r) : ∃ a t, l = a :: t ∧ f a t = some r := by
  cases l
  · cases h
  · exact ⟨_, _, rfl, h⟩
def zrN (l : List α) (f : Option R) : Option R := match l with | [] => f | _ :: _ => none
theorem zrN_some {l : List α} {f : Option R} {r : R} (h : zrN l f = some r) : l = [] ∧ f = some r := by
  cases l
  · exact ⟨rfl, h⟩
  · cases h
def zrO (o : Option α) (f : α → Option R) : Option R := match o with | some a => f a | none => none
theorem zrO_some {o : Option α} {f : α → Option R} {r : R} (h : zrO o f = some r) : ∃ a, o = some a ∧ f a = some r := by
  cases o
  · cases h
  · exact ⟨_, rfl, h⟩
def zrA1 (a : AV) (f : CV → Option R) : Option R := match a with | .one c => f c | _ => none
theorem zrA1_some {a : AV} {f : CV → Option R} {r : R} (h : zrA1 a f = some r) : ∃ c, a = .one c ∧ f c = some r := by
  unfold zrA1 at h
  split at h
  · exact ⟨_, rfl, h⟩
  · cases h
def zrAg (a : AV) (f : List CV → Option R) : Option R := match a with | .ag l => f l | _ => none
theorem zrAg_some {a : AV} {f : List CV → Option R} {r : R} (h : zrAg a f = some r) : ∃ l, a = .ag l ∧ f l = some r := by
  unfold zrAg at h
  split at h
  · exact ⟨_, rfl, h⟩
  · cases h
def zrV (c : CV) (f : Value → Option R) : Option R := match c with | .v false x => f x | _ => none
theorem zrV_some {c : CV} {f : Value → Option R} {r : R} (h : zrV c f = some r) : ∃ x, c = .v false x ∧ f x = some r := by
  unfold zrV at h
  split at h
  · exact ⟨_, rfl, h⟩
  · cases h
def zrI (k : IntKind) (c : CV) (f : Int → Option R) : Option R := match c with | .v false (.int k' x) => (match decide (k' = k) with | true => f x | false => none) | _ => none
theorem zrI_some {k : IntKind} {c : CV} {f : Int → Option R} {r : R} (h : zrI k c f = some r) : ∃ x, c = .v false (.int k x) ∧ f x = some r := by
  unfold zrI at h
  split at h
  · split at h
    · rename_i hk
      have := of_decide_eq_true hk
      subst this
      exact ⟨_, rfl, h⟩
    · cases h
  · cases h
def zrB (c : CV) (f : Bool → Option R) : Option R := match c with | .v false (.bool x) => f x | _ => none
theorem zrB_some {c : CV} {f : Bool → Option R} {r : R} (h : zrB c f = some r) : ∃ x, c = .v false (.bool x) ∧ f x = some r := by
  unfold zrB at h
  split at h
  · exact ⟨_, rfl, h⟩
  · cases h
def zrS (c : CV) (f : ByteArray → Option R) : Option R := match c with | .v false (.string x) => f x | _ => none
theorem zrS_some {c : CV} {f : ByteArray → Option R} {r : R} (h : zrS c f = some r) : ∃ x, c = .v false (.string x) ∧ f x = some r := by
  unfold zrS at h
  split at h
  · exact ⟨_, rfl, h⟩
  · cases h
def zrD (t : Ty) (c : CV) (f : (Ty.list t).den → Option R) : Option R := match c with | .d false false t' l => (if h : t' = t then f (h ▸ l) else none) | _ => none
theorem zrD_some {t : Ty} {c : CV} {f : (Ty.list t).den → Option R} {r : R} (h : zrD t c f = some r) : ∃ x, c = .d false false t x ∧ f x = some r := by
  unfold zrD at h
  split at h
  · split at h
    · rename_i ht
      subst ht
      exact ⟨_, rfl, h⟩
    · cases h
  · cases h
def zrEl (t : Ty) (o : Nat) (c : CV) (f : t.den → Option R) : Option R := match c with | .e false t' x o' => (if h : t' = t then (match decide (o' = o) with | true => f (h ▸ x) | false => none) else none) | _ => none
theorem zrEl_some {t : Ty} {o : Nat} {c : CV} {f : t.den → Option R} {r : R} (h : zrEl t o c f = some r) : ∃ x, c = .e false t x o ∧ f x = some r := by
  unfold zrEl at h
  split at h
  · split at h
    · rename_i ht
      subst ht
      split at h
      · rename_i ho
        have := of_decide_eq_true ho
        subst this
        exact ⟨_, rfl, h⟩
      · cases h
    · cases h
  · cases h
def zrP (k o : Nat) (c : CV) (f : Option R) : Option R := match c with | .p k' o' => (match decide (k' = k ∧ o' = o) with | true => f | false => none) | _ => none
theorem zrP_some {k o : Nat} {c : CV} {f : Option R} {r : R} (h : zrP k o c f = some r) : c = .p k o ∧ f = some r := by
  unfold zrP at h
  split at h
  · split at h
    · rename_i hk
      obtain ⟨rfl, rfl⟩ := of_decide_eq_true hk
      exact ⟨rfl, h⟩
    · cases h
  · cases h
def zrSl (k i : Nat) (n : Option Nat) (c : CV) (f : Option R) : Option R := match c with | .s false k' i' n' => (match decide (k' = k ∧ i' = i ∧ n' = n) with | true => f | false => none) | _ => none
theorem zrSl_some {k i : Nat} {n : Option Nat} {c : CV} {f : Option R} {r : R} (h : zrSl k i n c f = some r) : c = .s false k i n ∧ f = some r := by
  unfold zrSl at h
  split at h
  · split at h
    · rename_i hk
      obtain ⟨rfl, rfl, rfl⟩ := of_decide_eq_true hk
      exact ⟨rfl, h⟩
    · cases h
  · cases h
def zrAp (k i m o : Nat) (c : CV) (f : Option R) : Option R := match c with | .ap false k' i' m' o' => (match decide (k' = k ∧ i' = i ∧ m' = m ∧ o' = o) with | true => f | false => none) | _ => none
theorem zrAp_some {k i m o : Nat} {c : CV} {f : Option R} {r : R} (h : zrAp k i m o c f = some r) : c = .ap false k i m o ∧ f = some r := by
  unfold zrAp at h
  split at h
  · split at h
    · rename_i hk
      obtain ⟨rfl, rfl, rfl, rfl⟩ := of_decide_eq_true hk
      exact ⟨rfl, h⟩
    · cases h
  · cases h
def zrF (g : FuncId) (caps : List (Nat × Nat)) (c : CV) (f : Option R) : Option R := match c with | .fn g' caps' => (match decide (g' = g ∧ caps' = caps) with | true => f | false => none) | _ => none
theorem zrF_some {g : FuncId} {caps : List (Nat × Nat)} {c : CV} {f : Option R} {r : R} (h : zrF g caps c f = some r) : c = .fn g caps ∧ f = some r := by
  unfold zrF at h
  split at h
  · split at h
    · rename_i hk
      obtain ⟨rfl, rfl⟩ := of_decide_eq_true hk
      exact ⟨rfl, h⟩
    · cases h
  · cases h
def zrJ (c : CV) (f : Option R) : Option R := match c with | .junk => f | _ => none
theorem zrJ_some {c : CV} {f : Option R} {r : R} (h : zrJ c f = some r) : c = .junk ∧ f = some r := by
  unfold zrJ at h
  split at h
  · exact ⟨rfl, h⟩
  · cases h
def zrNil (c : CV) (f : Option R) : Option R := match c with | .v false (.slice none 0 0) => f | _ => none
theorem zrNil_some {c : CV} {f : Option R} {r : R} (h : zrNil c f = some r) : c = .v false (.slice none 0 0) ∧ f = some r := by
  unfold zrNil at h
  split at h
  · exact ⟨rfl, h⟩
  · cases h
def zrKey (k : Nat) (q : Nat × OB) (f : OB → Option R) : Option R := match q with | (j, ob) => (match decide (j = k) with | true => f ob | false => none)
theorem zrKey_some {k : Nat} {q : Nat × OB} {f : OB → Option R} {r : R} (h : zrKey k q f = some r) : ∃ ob, q = (k, ob) ∧ f ob = some r := by
  obtain ⟨j, ob⟩ := q
  unfold zrKey at h
  dsimp only at h
  split at h
  · rename_i hk
    have := of_decide_eq_true hk
    subst this
    exact ⟨_, rfl, h⟩
  · cases h
def zrC (ob : OB) (f : List CV → Option R) : Option R := match ob with | .cells l => f l | _ => none
theorem zrC_some {ob : OB} {f : List CV → Option R} {r : R} (h : zrC ob f = some r) : ∃ l, ob = .cells l ∧ f l = some r := by
  unfold zrC at h
  split at h
  · exact ⟨_, rfl, h⟩
  · cases h
def zrX (ob : OB) (f : Option R) : Option R := match ob with | .dead => f | _ => none
theorem zrX_some {ob : OB} {f : Option R} {r : R} (h : zrX ob f = some r) : ob = .dead ∧ f = some r := by
  unfold zrX at h
  split at h
  · exact ⟨rfl, h⟩
  · cases h
def zrR (mu : Bool) (e : TypeId) (t : Ty) (ob : OB) (f : (Ty.list t).den → Option R) : Option R := match ob with | .row mu' false false e' t' l => (if h : t' = t then (match decide (mu' = mu ∧ e' = e) with | true => f (h ▸ l) | false => none) else none) | _ => none
theorem zrR_some {mu : Bool} {e : TypeId} {t : Ty} {ob : OB} {f : (Ty.list t).den → Option R} {r : R} (h : zrR mu e t ob f = some r) : ∃ l, ob = .row mu false false e t l ∧ f l = some r := by
  unfold zrR at h
  split at h
  · split at h
    · rename_i ht
      subst ht
      split at h
      · rename_i hk
        obtain ⟨rfl, rfl⟩ := of_decide_eq_true hk
        exact ⟨_, rfl, h⟩
      · cases h
    · cases h
  · cases h
end
end Go.Proofs.Ytacgchandefjgaa
