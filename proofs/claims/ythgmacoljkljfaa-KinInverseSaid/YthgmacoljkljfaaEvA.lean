/-
  A small evaluator of code over values that may be letters: what a run of a function answers, as a tree of the tests that it meets; own memory beside. No program is named here.
-/
import Derived.Test.YthgmacoljkljfaaExt
import Derived.Orders
import Derived.Laws.Cells
import Derived.Laws.IdiomCopy
import Derived.Laws.StructEq
namespace Go.Proofs.Ythgmacoljkljfaa
open Go
/-- A tree of tests. -/
inductive Tr (α : Type) : Type where
  | ret (a : α)
  | br (b : Bool) (t e : Tr α)
  | bad (why : Nat)
namespace Tr
def val {α : Type} : Tr α → Option α
  | .ret a => some a
  | .br b t e => cond b t.val e.val
  | .bad _ => none
def bind {α β : Type} : Tr α → (α → Tr β) → Tr β
  | .ret a, f => f a
  | .br b t e, f => .br b (t.bind f) (e.bind f)
  | .bad n, _ => .bad n
/-- A test: carried out where it is known, else a node. -/
def ite {α : Type} (kn b : Bool) (t e : Tr α) : Tr α :=
  match kn with
  | true => match b with | true => t | false => e
  | false => .br b t e
theorem val_bind {α β : Type} (x : Tr α) (f : α → Tr β) : (x.bind f).val = x.val.bind fun a => (f a).val := by
  induction x with
  | ret a => rfl
  | bad n => rfl
  | br b t e h1 h2 => cases b <;> simp [bind, val, h1, h2]
theorem val_ite {α : Type} (kn b : Bool) (t e : Tr α) : (Tr.ite kn b t e).val = cond b t.val e.val := by
  cases kn <;> cases b <;> rfl
theorem val_ite_some {α : Type} {kn b : Bool} {t e : Tr α} {r : α} (h : (Tr.ite kn b t e).val = some r) : (b = true ∧ t.val = some r) ∨ (b = false ∧ e.val = some r) := by
  rw [val_ite] at h
  cases b
  · exact .inr ⟨rfl, h⟩
  · exact .inl ⟨rfl, h⟩
theorem bind_some {α β : Type} {x : Tr α} {f : α → Tr β} {r : β} (h : (x.bind f).val = some r) : ∃ a, x.val = some a ∧ (f a).val = some r := by
  rw [val_bind] at h
  exact Option.bind_eq_some_iff.1 h
/-- Every way through the tree ends in an answer for which Q holds. -/
def all {α : Type} (Q : α → Prop) : Tr α → Prop
  | .ret a => Q a
  | .br b t e => (b = true → t.all Q) ∧ (b = false → e.all Q)
  | .bad _ => False
theorem all_val {α : Type} {Q : α → Prop} {x : Tr α} (h : x.all Q) : ∃ a, x.val = some a ∧ Q a := by
  induction x with
  | ret a => exact ⟨a, rfl, h⟩
  | bad n => exact h.elim
  | br b t e h1 h2 =>
    cases b
    · exact h2 (h.2 rfl)
    · exact h1 (h.1 rfl)
end Tr
/-- What a temporary or a cell holds: a value (known as it stands, or not), a pointer into own memory, a closure over such pointers. -/
inductive AV where
  | v (kn : Bool) (x : Value)
  | p (k off : Nat)
  | fn (f : FuncId) (caps : List (Nat × Nat))
  | junk
def AV.at (ρ : Nat → Nat) : AV → Value
  | .v _ x => x
  | .p k off => .pointer (some ⟨ρ k, off, none⟩)
  | .fn f caps => .func (.func f) #[] (caps.map fun q => Value.pointer (some ⟨ρ q.1, q.2, none⟩)).toArray
  | .junk => undef
/-- The value u is what x says: whatever it is, for junk. -/
def AV.is (ρ : Nat → Nat) (x : AV) (u : Value) : Prop :=
  match x with
  | .junk => True
  | y => u = y.at ρ
def AV.raw : AV → Value
  | .v _ x => x
  | _ => undef
def AV.isV : AV → Bool
  | .v _ _ => true
  | _ => false
def AV.known : AV → Bool
  | .v kn _ => kn
  | _ => false
def AV.one : AV → Bool
  | .v _ x => x.oneCell'
  | .junk => false
  | _ => true
theorem AV.at_raw {x : AV} (h : x.isV = true) (ρ : Nat → Nat) : x.at ρ = x.raw := by cases x <;> simp_all [AV.isV, AV.at, AV.raw]
abbrev Own := Nat → Option (List AV)
def Own.set (own : Own) (k : Nat) (cs : List AV) : Own := fun j => if j = k then some cs else own j
def AV.ok (own : Own) : AV → Prop
  | .v _ _ => True
  | .p k _ => (own k).isSome = true
  | .fn _ caps => ∀ q ∈ caps, (own q.1).isSome = true
  | .junk => True
def opd (tm : List AV) : Operand → AV
  | .tmp t => tm.getD t (.v true undef)
  | .const v => .v true v
  | .global g => .v false (.pointer (some ⟨g, 0, none⟩))
  | .func f => .v true (.func (.func f) #[] #[])
def pureRun (P : Program) {α : Type} : Sem α → Option α
  | .pure a => some a
  | .program k => pureRun P (k P)
  | _ => none
theorem pureRun_run {P : Program} {α : Type} : ∀ {s : Sem α} {a : α}, pureRun P s = some a → ∀ w, s.run P w = .ok a w
  | .pure _, _, h, w => by simp only [pureRun, Option.some.injEq] at h; subst h; rfl
  | .program k, _, h, w => by simp only [pureRun] at h; exact pureRun_run (s := k _) h w
  | .load .., _, h, _ | .store .., _, h, _ | .new .., _, h, _ | .shape .., _, h, _ | .freeze .., _, h, _ | .frozen .., _, h, _ | .getObj .., _, h, _ | .setObj .., _, h, _ | .choose .., _, h, _ | .sys .., _, h, _ | .mark .., _, h, _ | .halt _, _, h, _ => by simp [pureRun] at h
/-- Is it a struct's or an array's type; and how many cells. -/
def aggSize (P : Program) (t : TypeId) : Option (Bool × Nat) :=
  match P.underlying t, P.info? t with
  | some (.struct _), some i => some (true, i.size)
  | some (.array _ _), some i => some (true, i.size)
  | some _, some i => some (false, i.size)
  | _, _ => none
def partV (P : Program) (t : TypeId) (cs : Array Value) (off : Nat) : Option Value :=
  match aggSize P t with
  | some (true, n) => some (.agg (cs.extract off (off + n)))
  | some (false, _) => cs[off]?
  | none => none
def fieldsB (P : Program) (eq : TypeId → Value → Value → Option Bool) (xs ys : Array Value) : List Field → Option Bool
  | [] => some true
  | f :: r =>
    if f.name = "_" then none else
    match partV P f.type xs f.offset, partV P f.type ys f.offset with
    | some a, some b =>
      match eq f.type a b, fieldsB P eq xs ys r with
      | some p, some q => some (p && q)
      | _, _ => none
    | _, _ => none
def elemsB (P : Program) (eq : TypeId → Value → Value → Option Bool) (e : TypeId) (n : Nat) (xs ys : Array Value) (i : Nat) : Nat → Option Bool
  | 0 => some true
  | m + 1 =>
    match partV P e xs (i * n), partV P e ys (i * n) with
    | some a, some b =>
      match eq e a b, elemsB P eq e n xs ys (i + 1) m with
      | some p, some q => some (p && q)
      | _, _ => none
    | _, _ => none
def eqB (P : Program) : Nat → TypeId → Value → Value → Option Bool
  | 0, _, _, _ => none
  | d + 1, t, x, y =>
    match P.underlying t, x, y with
    | some .bool, .bool a, .bool b => some (a == b)
    | some (.int _), .int k a, .int k' b => if k = k' then some (a == b) else none
    | some .string, .string a, .string b => some (a == b)
    | some (.struct fs), .agg xs, .agg ys => if P.stoodInHeld t then none else fieldsB P (eqB P d) xs ys fs.toList
    | some (.array len e), .agg xs, .agg ys => match P.info? e with | some i => elemsB P (eqB P d) e i.size xs ys 0 len | none => none
    | _, _, _ => none
def rawAll : List AV → Option (Bool × List Value)
  | [] => some (true, [])
  | .v kn x :: r => match rawAll r with | some (k, l) => some (kn && k, x :: l) | none => none
  | _ :: _ => none
def ptrAll : List AV → Option (List (Nat × Nat))
  | [] => some []
  | .p k o :: r => match ptrAll r with | some l => some ((k, o) :: l) | none => none
  | _ :: _ => none
def splice (cells : List AV) (off : Nat) (vs : List AV) : List AV := cells.take off ++ vs ++ cells.drop (off + vs.length)
def asCells : AV → List AV
  | .v kn x => x.cells.toList.map (AV.v kn)
  | y => [y]
/-- Which element: the index known, or one test for each. -/
def pickAt {α : Type} (kn : Bool) (i : Int) (f : Nat → Tr α) (j : Nat) : Nat → Tr α
  | 0 => .bad 1
  | m + 1 => Tr.ite kn (i == (j : Int)) (f j) (pickAt kn i f (j + 1) m)
abbrev CallT := FuncId → List (Bool × Value) → Tr (Bool × Value)
def newBlock (key : Nat) (cs : List AV) (own : Own) : Tr (AV × Own) :=
  match own key with
  | some _ => .bad 2
  | none => .ret (.p key 0, own.set key cs)
def generic (P : Program) (o : Oper) (tm : List AV) (own : Own) : Tr (AV × Own) :=
  match (o.op.operands.toList.map (opd tm)).all AV.isV with
  | false => .bad 3
  | true =>
    match pureRun P (execOp (fun x => (opd tm x).raw) o) with
    | some (.value x) => .ret (.v ((o.op.operands.toList.map (opd tm)).all AV.known) x, own)
    | _ => .bad 4
/-- Nothing is called through its name that runs outside of Go's text. -/
def callable (P : Program) (n : FuncId) : Bool :=
  match P.funcs[n]? with
  | some fn => !(fn.name == "runtime.NumGoroutine") && fn.body.isSome
  | none => false
def opT (P : Program) (call : CallT) (key : Nat) (o : Oper) (tm : List AV) (own : Own) : Tr (AV × Own) :=
  match o.op with
  | .move x | .assign x => .ret (opd tm x, own)
  | .pick c a b =>
    match opd tm c with
    | .v kn (.bool t) => Tr.ite kn t (.ret (opd tm a, own)) (.ret (opd tm b, own))
    | _ => .bad 5
  | .alloc elem =>
    match (P.info? elem).bind (·.zero) with
    | some z => newBlock key (z.cells.toList.map (AV.v true)) own
    | none => .bad 6
  | .box _ x => match (asCells (opd tm x)).all AV.one with | true => newBlock key (asCells (opd tm x)) own | false => .bad 32
  | .load t a =>
    match opd tm a with
    | .p k off =>
      match own k, aggSize P t with
      | some cells, some (true, n) =>
        match rawAll ((cells.drop off).take n) with
        | some (kn, vs) => match vs.length == n with | true => .ret (.v kn (.agg vs.toArray), own) | false => .bad 7
        | none => .bad 8
      | some cells, some (false, _) => match cells[off]? with | some x => .ret (x, own) | none => .bad 9
      | _, _ => .bad 10
    | _ => .bad 11
  | .store t a x =>
    match opd tm a with
    | .p k off =>
      match own k, P.info? t with
      | some cells, some i =>
        match (i.size == (asCells (opd tm x)).length) && (decide (off + (asCells (opd tm x)).length ≤ cells.length)) && (asCells (opd tm x)).all AV.one with
        | true => .ret (.v true undef, own.set k (splice cells off (asCells (opd tm x))))
        | false => .bad 12
      | _, _ => .bad 13
    | _ => .bad 14
  | .fieldAddr s x f =>
    match opd tm x, P.underlying s with
    | .p k off, some (.struct fs) =>
      match fs[f]? with
      | some fd => match (P.info? fd.type).map (·.size) with
        | some (_ + 1) => .ret (.p k (off + fd.offset), own)
        | _ => .bad 15
      | none => .bad 16
    | _, _ => .bad 17
  | .indexAddr t x ix =>
    match opd tm x, P.underlying t, opd tm ix with
    | .p k off, some (.array n e), .v kn (.int _ i) =>
      match P.info? e with
      | some inf => pickAt kn i (fun j => .ret (.p k (off + j * inf.size), own)) 0 n
      | none => .bad 18
    | _, _, _ => .bad 19
  | .nilCheck x =>
    match opd tm x with
    | .p k off => .ret (.p k off, own)
    | .fn f caps => .ret (.fn f caps, own)
    | _ => generic P o tm own
  | .makeFunc fn first caps =>
    match fn, first.toList, ptrAll (caps.toList.map (opd tm)) with
    | .func f, [], some l => .ret (.fn f l, own)
    | _, _, _ => generic P o tm own
  | .call cl =>
    match cl.callee with
    | .value f =>
      match opd tm f, rawAll (cl.args.toList.map (opd tm)) with
      | .v _ (.func (.func n) first caps), some _ =>
        match first.toList, caps.toList, callable P n with
        | [], [], true => (call n ((cl.args.toList.map (opd tm)).map fun x => (x.known, x.raw))).bind fun r => .ret (.v r.1 r.2, own)
        | _, _, _ => .bad 20
      | _, _ => .bad 21
    | .builtin _ => generic P o tm own
    | _ => .bad 22
  | .binOp op t x y _ =>
    match op, opd tm x, opd tm y with
    | .quo, .v k1 (.int k a), .v k2 (.int k' b) => match decide (k = k') with | true => Tr.ite k2 (b != 0) (.ret (.v (k1 && k2) (.int k (k.wrap (a.tdiv b))), own)) (.bad 23) | false => .bad 24
    | .rem, .v k1 (.int k a), .v k2 (.int k' b) => match decide (k = k') with | true => Tr.ite k2 (b != 0) (.ret (.v (k1 && k2) (.int k (a.tmod b)), own)) (.bad 25) | false => .bad 26
    | .shl, .v k1 (.int k a), .v k2 (.int _ b) => Tr.ite k2 (decide (0 ≤ b)) (.ret (.v (k1 && k2) (.int k (k.wrap (a * 2 ^ (min b.toNat k.bits)))), own)) (.bad 27)
    | .shr, .v k1 (.int k a), .v k2 (.int _ b) => Tr.ite k2 (decide (0 ≤ b)) (.ret (.v (k1 && k2) (.int k (a.fdiv (2 ^ (min b.toNat k.bits)))), own)) (.bad 28)
    | .eql, .v k1 (.agg xs), .v k2 (.agg ys) => match P.eqGuardType P.depth t, eqB P 8 t (.agg xs) (.agg ys) with | false, some b => .ret (.v (k1 && k2) (.bool b), own) | _, _ => .bad 29
    | .neq, .v k1 (.agg xs), .v k2 (.agg ys) => match P.eqGuardType P.depth t, eqB P 8 t (.agg xs) (.agg ys) with | false, some b => .ret (.v (k1 && k2) (.bool !b), own) | _, _ => .bad 30
    | .eql, .v k1 (.bool a), .v k2 (.bool b) => match eqB P 8 t (.bool a) (.bool b) with | some r => .ret (.v (k1 && k2) (.bool r), own) | _ => .bad 33
    | .neq, .v k1 (.bool a), .v k2 (.bool b) => match eqB P 8 t (.bool a) (.bool b) with | some r => .ret (.v (k1 && k2) (.bool !r), own) | _ => .bad 34
    | _, _, _ => generic P o tm own
  | .field .. | .index .. | .extract .. | .unOp .. | .convert .. | .build .. => generic P o tm own
  | _ => .bad 31
end Go.Proofs.Ythgmacoljkljfaa
