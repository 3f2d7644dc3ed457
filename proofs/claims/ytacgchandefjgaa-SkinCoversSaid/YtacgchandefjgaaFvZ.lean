/-
  States written out. No program is named here.
-/
import Derived.Test.YtacgchandefjgaaFvY
namespace Go.Proofs.Ytacgchandefjgaa
open Go
def fB {β : Sort _} (b : Bool) (k : Bool → β) : β := match b with | true => k true | false => k false
def fI {β : Sort _} (i : IntKind) (k : IntKind → β) : β := match i with | .i64 => k .i64 | .u8 => k .u8 | .u16 => k .u16 | .u32 => k .u32 | .u64 => k .u64 | x => k x
def fV {β : Sort _} (x : Value) (k : Value → β) : β :=
  match x with
  | .int i n => fI i fun i => k (.int i n)
  | .bool b => k (.bool b)
  | .slice none n m => k (.slice none n m)
  | x => k x
def fT {β : Sort _} (t : Ty) (k : Ty → β) : β :=
  match t with
  | .bool => k .bool
  | .str => k .str
  | t => k t
/-- Captures written out. -/
def fP {β : Sort _} : List (Nat × Nat) → (List (Nat × Nat) → β) → β
  | [], k => k []
  | (a, b) :: r, k => fP r fun r => k ((a, b) :: r)
theorem fP_eq {β : Sort _} : ∀ (l : List (Nat × Nat)) (k : List (Nat × Nat) → β), fP l k = k l
  | [], _ => rfl
  | (a, b) :: r, k => by rw [fP, fP_eq r]
/-- A cell written out. -/
def fC {β : Sort _} (x : CV) (k : CV → β) : β :=
  match x with
  | .v a x => fB a fun a => fV x fun x => k (.v a x)
  | .p a b => k (.p a b)
  | .fn f c => fP c fun c => k (.fn f c)
  | .junk => k .junk
  | .d a b t l => fB a fun a => fB b fun b => k (.d a b t l)
  | .s a b i n => fB a fun a => k (.s a b i n)
  | .e a t x o => fB a fun a => k (.e a t x o)
  | .ap a b i m o => fB a fun a => k (.ap a b i m o)
def fL {α β : Type} (f : α → (α → β) → β) : List α → (List α → β) → β
  | [], k => k []
  | x :: r, k => f x fun x => fL f r fun r => k (x :: r)
def fA {β : Type} (x : AV) (k : AV → β) : β :=
  match x with
  | .one c => fC c fun c => k (.one c)
  | .ag l => fL fC l fun l => k (.ag l)
  | .tup l => k (.tup l)
def fO {β : Type} (x : Nat × OB) (k : Nat × OB → β) : β :=
  match x with
  | (q, .cells l) => fL fC l fun l => k (q, .cells l)
  | (q, .row mu kl kn e t l) => fB mu fun mu => fB kl fun kl => fB kn fun kn => k (q, .row mu kl kn e t l)
  | (q, .dead) => k (q, .dead)
def fS {β : Type} (st : Stt) (k : Stt → β) : β := fL fA st.tm fun tm => fL fO st.own fun own => k ⟨tm, own, st.nx⟩
theorem fB_eq {β : Sort _} (b : Bool) (k : Bool → β) : fB b k = k b := by cases b <;> rfl
theorem fI_eq {β : Sort _} (b : IntKind) (k : IntKind → β) : fI b k = k b := by cases b <;> rfl
theorem fV_eq {β : Sort _} (x : Value) (k : Value → β) : fV x k = k x := by
  unfold fV
  split
  · exact fI_eq _ _
  · rfl
  · rfl
  · rfl
theorem fC_eq {β : Sort _} (x : CV) (k : CV → β) : fC x k = k x := by
  cases x <;> simp only [fC, fB_eq, fV_eq, fP_eq]
theorem fL_eq {α β : Type} {f : α → (α → β) → β} (h : ∀ x k, f x k = k x) : ∀ (l : List α) (k : List α → β), fL f l k = k l
  | [], _ => rfl
  | x :: r, k => by rw [fL, h, fL_eq h r]
theorem fA_eq {β : Type} (x : AV) (k : AV → β) : fA x k = k x := by
  cases x with
  | one c => simp only [fA, fC_eq]
  | ag l => simp only [fA, fL_eq fC_eq]
  | tup l => rfl
theorem fO_eq {β : Type} (x : Nat × OB) (k : Nat × OB → β) : fO x k = k x := by
  obtain ⟨q, ob⟩ := x
  cases ob with
  | cells l => simp only [fO, fL_eq fC_eq]
  | row mu kl kn e t l => simp only [fO, fB_eq]
  | dead => rfl
theorem fS_eq {β : Type} (st : Stt) (k : Stt → β) : fS st k = k st := by
  unfold fS
  rw [fL_eq fA_eq, fL_eq fO_eq]
/-- A round's end, in normal form, written out. -/
def finF (W : List Nat) (As : List Anch) (ks dd : List Nat) (nx : Nat) (r : Ex × Stt × Dec) : Tr (Ex × Stt) :=
  fS ⟨junks W r.2.1.tm, r.2.1.own, r.2.1.nx⟩ fun st =>
    match canAok [] As ks dd nx st with
    | true => .ret (r.1, canA [] As ks dd nx st)
    | false => .bad 131
theorem finF_eq (W : List Nat) (As : List Anch) (ks dd : List Nat) (nx : Nat) (r : Ex × Stt × Dec) : finF W As ks dd nx r = finA W As ks dd nx r := by
  unfold finF finA
  rw [fS_eq]
  rfl
/-- A function's text; a loop in it. -/
def bodyOf (P : Program) (f : FuncId) : Code := match P.funcs[f]? with | some fn => (match fn.body with | some b => b | none => .skip) | none => .skip
def loopOf (b : Code) (p : List Nat) : Code := match codeAt b p with | some (.loop c) => c | _ => .skip
/-- Temporaries by those that are spoken of. -/
def lookT : List (Nat × AV) → Nat → Option AV
  | [], _ => none
  | (i, x) :: r, j => match Nat.beq i j with | true => some x | false => lookT r j
def fillT (n : Nat) (Lv : List (Nat × AV)) : List AV := (List.range n).map fun j => match lookT Lv j with | some x => x | none => .one .junk
def juAll (W : List Nat) (tm : List AV) (n : Nat) : Bool := Nat.beq tm.length n && W.all fun j => match tm[j]? with | some (.one .junk) => true | _ => false
def covered (W : List Nat) (js : List Nat) (n : Nat) : Bool := (List.range n).all fun j => W.contains j || js.contains j
def allGet (tm : List AV) : List (Nat × AV) → Prop
  | [] => True
  | q :: r => tm[q.1]? = some q.2 ∧ allGet tm r
theorem lookT_get {tm : List AV} : ∀ {Lv : List (Nat × AV)} {j : Nat} {x : AV}, lookT Lv j = some x → allGet tm Lv → tm[j]? = some x
  | [], _, _, h, _ => by cases h
  | (i, y) :: r, j, x, h, ha => by
    simp only [lookT] at h
    split at h
    · rename_i hb
      have := Nat.eq_of_beq_eq_true hb
      subst this
      simp only [Option.some.injEq] at h; subst h
      exact ha.1
    · exact lookT_get h ha.2
theorem lookT_has : ∀ {Lv : List (Nat × AV)} {j : Nat}, lookT Lv j = none → (Lv.map (·.1)).contains j = false
  | [], _, _ => rfl
  | (i, y) :: r, j, h => by
    simp only [lookT] at h
    split at h
    · cases h
    · rename_i hb
      have hn : j ≠ i := fun e => by subst e; simp at hb
      have := lookT_has h
      simp only [List.contains_eq_mem, decide_eq_false_iff_not, List.map_cons, List.mem_cons, not_or] at this ⊢
      exact ⟨hn, this⟩
theorem tm_fill {W : List Nat} {n : Nat} {tm : List AV} {Lv : List (Nat × AV)} (h : juAll W tm n = true) (hc : covered W (Lv.map (·.1)) n = true) (hl : allGet tm Lv) : tm = fillT n Lv := by
  unfold juAll at h
  rw [Bool.and_eq_true, List.all_eq_true] at h
  obtain ⟨h1, h2⟩ := h
  have h1 := Nat.eq_of_beq_eq_true h1
  unfold covered at hc
  rw [List.all_eq_true] at hc
  refine List.ext_getElem? fun j => ?_
  unfold fillT
  rw [List.getElem?_map]
  by_cases hj : j < n
  · rw [List.getElem?_range hj]
    simp only [Option.map_some]
    cases hx : lookT Lv j with
    | some x => exact lookT_get hx hl
    | none =>
      have h3 := hc j (List.mem_range.2 hj)
      rw [lookT_has hx, Bool.or_false] at h3
      have h4 := h2 j (by simpa using h3)
      split at h4
      · assumption
      · cases h4
  · rw [List.getElem?_eq_none (by omega), List.getElem?_eq_none (by simp; omega)]
    rfl
/-- An element of a list. -/
def elm (t : Ty) (l : List t.den) (i : Int) : t.den := l.getD i.toNat t.dflt
/-- A loop's sum, by rounds that are written out. -/
theorem loop_sumF {P : Program} {S : Sums} {On : FuncId → Bool} {L : FuncId → Loops} (hm : P.follows .mixedOrders = true) (hS : SumOK P S) (hL : LoopsOK P L) (d : Nat) {f : FuncId} {p : List Nat} {body c : Code}
    (hbody : ∃ fn, P.funcs[f]? = some fn ∧ fn.body = some body) (hat : codeAt body p.reverse = some (.loop c))
    {U V : Type} {St : U → V → Stt} {kinds : List Ex} {allow : List (Nat × Ex)} {step : U → V → Tr (V ⊕ (Nat × V))} {W : List Nat} {As : List Anch} {ks dd : List Nat} {nx n : Nat}
    (hne : kinds.all (fun e => match e with | .normal => false | _ => true) = true) (hal : allow.all (fun q => exEq (exAt kinds q.1) q.2) = true)
    (hstep : ∀ u s, (evalC P (evalB P S On L d).1 (evalB P S On L d).2 On (L f) n (0 :: p) c (St u s) []).bind (finF W As ks dd nx) = (step u s).bind (outA (St u) kinds))
    {g : U → V → Nat × V} {cond : U → V → Bool} {fuel : U → V → Nat} (hg : ∀ u s, cond u s = true → loopN (step u) (fuel u s) s = some (g u s))
    {read : Stt → Option (U × V)} (hread : ∀ st u s, read st = some (u, s) → canAok W As ks dd nx st = true ∧ staysA As ks st.own = true ∧ canA W As ks dd nx st = St u s) :
    LoopsOK P (addL f p (sumM read cond St g allow) L) :=
  loop_sumA hm hS hL d hbody hat hne hal (fun u s => by rw [← hstep u s, funext (finF_eq W As ks dd nx)]) hg hread
/-- Rounds that keep something, and come nearer to an end. -/
theorem loopN_inv {σ τ : Type} {step : σ → Tr (σ ⊕ τ)} {Inv : σ → Prop} {μ : σ → Nat} {Q : τ → Prop} (h : ∀ s, Inv s → (step s).all (fun x => match x with | .inl s' => Inv s' ∧ μ s' < μ s | .inr t => Q t)) : ∀ n s, Inv s → μ s < n → ∃ t, loopN step n s = some t ∧ Q t
  | 0, _, _, h => absurd h (Nat.not_lt_zero _)
  | n + 1, s, hi, hn => by
    obtain ⟨x, hx, hQ⟩ := Tr.all_val (h s hi)
    simp only [loopN, hx]
    cases x with
    | inl s' => exact loopN_inv h n s' hQ.1 (Nat.lt_of_lt_of_le hQ.2 (Nat.le_of_lt_succ hn))
    | inr t => exact ⟨t, rfl, hQ⟩
theorem Tr.all.mono {α : Type} {Q Q' : α → Prop} : ∀ {x : Tr α}, x.all Q → (∀ a, Q a → Q' a) → x.all Q'
  | .ret _, h, hq => hq _ h
  | .br _ _ _, h, hq => ⟨fun c => Tr.all.mono (h.1 c) hq, fun c => Tr.all.mono (h.2 c) hq⟩
  | .bad _, h, _ => h
/-- What the rounds come to. -/
def loopG {V : Type} (step : V → Tr (V ⊕ (Nat × V))) (fuel : V → Nat) (v : V) : Nat × V := match loopN step (fuel v) v with | some t => t | none => (0, v)
theorem loopG_ok {V : Type} {step : V → Tr (V ⊕ (Nat × V))} {fuel : V → Nat} {v : V} {Q : Nat × V → Prop} (h : ∃ t, loopN step (fuel v) v = some t ∧ Q t) : loopN step (fuel v) v = some (loopG step fuel v) ∧ Q (loopG step fuel v) := by
  obtain ⟨t, h1, h2⟩ := h
  unfold loopG
  rw [h1]
  exact ⟨rfl, h2⟩
theorem cond_same {α : Type} (b : Bool) (x : α) : (bif b then x else x) = x := by cases b <;> rfl
/-- For looking at a state: what is not spoken of goes; blocks by their keys. -/
def fN {β : Type} (lits : List Nat) (n : Nat) (k : Nat → β) : β :=
  match Nat.blt n 1000 with
  | true => match lits.find? (fun j => Nat.beq j n) with | some j => k j | none => k n
  | false =>
    match Nat.blt n 1000000 with
    | true => (match lits.find? (fun j => Nat.beq j (n % 1000)), lits.find? (fun j => Nat.beq j (n / 1000)) with | some a, some b => k (b * 1000 + a) | _, _ => k n)
    | false => (match lits.find? (fun j => Nat.beq j (n % 1000)), lits.find? (fun j => Nat.beq j (n / 1000 % 1000)), lits.find? (fun j => Nat.beq j (n / 1000000)) with | some a, some b, some c => k ((c * 1000 + b) * 1000 + a) | _, _, _ => k n)
def fPN {β : Type} (lits : List Nat) : List (Nat × Nat) → (List (Nat × Nat) → β) → β
  | [], k => k []
  | (a, b) :: r, k => fN lits a fun a => fN lits b fun b => fPN lits r fun r => k ((a, b) :: r)
def fCN {β : Type} (lits : List Nat) (x : CV) (k : CV → β) : β :=
  fC x fun x => match x with
  | .p a b => fN lits a fun a => fN lits b fun b => k (.p a b)
  | .fn f c => fPN lits c fun c => k (.fn f c)
  | .s a b i n => fN lits b fun b => k (.s a b i n)
  | .ap a b i m o => fN lits b fun b => k (.ap a b i m o)
  | x => k x
def fAN {β : Type} (lits : List Nat) (x : AV) (k : AV → β) : β :=
  match x with
  | .one c => fCN lits c fun c => k (.one c)
  | .ag l => fL (fCN lits) l fun l => k (.ag l)
  | .tup l => k (.tup l)
def fON {β : Type} (lits : List Nat) (x : Nat × OB) (k : Nat × OB → β) : β :=
  fN lits x.1 fun q =>
  match x.2 with
  | .cells l => fL (fCN lits) l fun l => k (q, .cells l)
  | .row mu kl kn e t l => fB mu fun mu => fB kl fun kl => fB kn fun kn => k (q, .row mu kl kn e t l)
  | .dead => k (q, .dead)
def lookS (W : List Nat) (lits : List Nat) (st : Stt) (k : Stt → Tr (Ex × Stt)) : Tr (Ex × Stt) := fL (fAN lits) (junks W st.tm) fun tm => fL (fON lits) st.own fun own => fN lits st.nx fun nx => k ⟨tm, own, nx⟩
end Go.Proofs.Ytacgchandefjgaa
