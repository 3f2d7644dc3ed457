/-
  An evaluator of code over values that may be letters: flat values, pointers into own memory, slices that are read alone (typed lists), slices of own rows. What a run of a function answers, as a tree of the tests that it meets. No program is named here.
-/
import Derived.Test.YtacgchandefjgaaExt
import Derived.Test.YtacgchandefjgaaSto
import Derived.Orders
import Derived.Laws.Cells
import Derived.Laws.IdiomCopy
import Derived.Laws.StructEq
import Derived.Laws.AppendOwn
import Derived.Laws.MakeOwn
namespace Go.Proofs.Ytacgchandefjgaa
open Go
/-- A tree of tests. -/
inductive Tr (α : Type) : Type where
  | ret (a : α)
  | br (b : Bool) (t e : Tr α)
  | bad (why : Nat)
namespace Tr
def val {α : Type} : Tr α → Option α
  | .ret a => some a
  | .br b t e => cond b t.val e.val
  | .bad _ => none
def bind {α β : Type} : Tr α → (α → Tr β) → Tr β
  | .ret a, f => f a
  | .br b t e, f => .br b (t.bind f) (e.bind f)
  | .bad n, _ => .bad n
/-- A test: carried out where it is known, else a node. -/
def ite {α : Type} (kn b : Bool) (t e : Tr α) : Tr α :=
  match kn with
  | true => match b with | true => t | false => e
  | false => .br b t e
theorem val_bind {α β : Type} (x : Tr α) (f : α → Tr β) : (x.bind f).val = x.val.bind fun a => (f a).val := by
  induction x with
  | ret a => rfl
  | bad n => rfl
  | br b t e h1 h2 => cases b <;> simp [bind, val, h1, h2]
theorem val_ite {α : Type} (kn b : Bool) (t e : Tr α) : (Tr.ite kn b t e).val = cond b t.val e.val := by
  cases kn <;> cases b <;> rfl
theorem val_ite_some {α : Type} {kn b : Bool} {t e : Tr α} {r : α} (h : (Tr.ite kn b t e).val = some r) : (b = true ∧ t.val = some r) ∨ (b = false ∧ e.val = some r) := by
  rw [val_ite] at h
  cases b
  · exact .inr ⟨rfl, h⟩
  · exact .inl ⟨rfl, h⟩
theorem ite_bad {α : Type} {kn b : Bool} {t : Tr α} {n : Nat} {r : α} (h : (Tr.ite kn b t (.bad n)).val = some r) : b = true ∧ t.val = some r := by
  rcases val_ite_some h with h | ⟨_, h⟩
  · exact h
  · cases h
theorem bind_some {α β : Type} {x : Tr α} {f : α → Tr β} {r : β} (h : (x.bind f).val = some r) : ∃ a, x.val = some a ∧ (f a).val = some r := by
  rw [val_bind] at h
  exact Option.bind_eq_some_iff.1 h
/-- Every way through the tree ends in an answer for which Q holds. -/
def all {α : Type} (Q : α → Prop) : Tr α → Prop
  | .ret a => Q a
  | .br b t e => (b = true → t.all Q) ∧ (b = false → e.all Q)
  | .bad _ => False
theorem all_val {α : Type} {Q : α → Prop} {x : Tr α} (h : x.all Q) : ∃ a, x.val = some a ∧ Q a := by
  induction x with
  | ret a => exact ⟨a, rfl, h⟩
  | bad n => exact h.elim
  | br b t e h1 h2 =>
    cases b
    · exact h2 (h.2 rfl)
    · exact h1 (h.1 rfl)
end Tr
/-- Kinds of data: what the cells of a value hold, in their order. -/
inductive Ty where
  | int (k : IntKind)
  | bool
  | str
  | prod (a b : Ty)
  | list (t : Ty)
  deriving DecidableEq
abbrev Ty.den : Ty → Type
  | .int _ => Int
  | .bool => Bool
  | .str => ByteArray
  | .prod a b => a.den × b.den
  | .list t => List t.den
def Ty.size : Ty → Nat
  | .prod a b => a.size + b.size
  | _ => 1
def Ty.dflt : (t : Ty) → t.den
  | .int _ => (0 : Int)
  | .bool => false
  | .str => ByteArray.empty
  | .prod a b => (a.dflt, b.dflt)
  | .list _ => []
/-- What a cell holds: a value (known as it stands, or not), a pointer into own memory, a closure over such pointers, a slice that is read alone, a slice of an own row, the address of an element of either. -/
inductive CV where
  | v (kn : Bool) (x : Value)
  | p (k off : Nat)
  | fn (f : FuncId) (caps : List (Nat × Nat))
  | junk
  | d (kl kn : Bool) (t : Ty) (l : List t.den)
  | s (kn : Bool) (k i : Nat) (n : Option Nat)
  | e (kn : Bool) (t : Ty) (x : t.den) (off : Nat)
  | ap (kn : Bool) (k i m off : Nat)
inductive AV where
  | one (x : CV)
  | ag (l : List CV)
  | tup (l : List (Bool × List CV))
abbrev AV.junk : AV := .one .junk
/-- A block of own memory: its cells; or a row of elements (may it be written; are its length and its elements known); or one that is not spoken of any more. -/
inductive OB where
  | cells (l : List CV)
  | row (mu kl kn : Bool) (e : TypeId) (t : Ty) (l : List t.den)
  | dead
abbrev Own := List (Nat × OB)
def Own.look : Own → Nat → Option OB
  | [], _ => none
  | (j, ob) :: r, k => match Nat.beq j k with | true => some ob | false => Own.look r k
def Own.repl (k : Nat) (ob : OB) : Own → Own
  | [] => []
  | (j, o) :: r => match Nat.beq j k with | true => (j, ob) :: r | false => (j, o) :: Own.repl k ob r
def Own.set (own : Own) (k : Nat) (ob : OB) : Own :=
  match own.look k with
  | none => (k, ob) :: own
  | some _ => own.repl k ob
def Own.puts (own : Own) : List (Nat × OB) → Own
  | [] => own
  | q :: r => Own.puts (own.set q.1 q.2) r
theorem Own.look_repl (k : Nat) (ob : OB) : ∀ (own : Own) (j : Nat), (own.repl k ob).look j = if j = k then (own.look k).map (fun _ => ob) else own.look j
  | [], j => by simp [Own.repl, Own.look]
  | (i, o) :: r, j => by
    simp only [Own.repl]
    cases hk : Nat.beq i k with
    | true =>
      have hk := Nat.eq_of_beq_eq_true hk
      subst hk
      simp only [Own.look]
      by_cases hj : j = i
      · subst hj; simp
      · have : Nat.beq i j = false := by rw [← Bool.not_eq_true]; intro h; exact hj (Nat.eq_of_beq_eq_true h).symm
        simp [hj, this]
    | false =>
      simp only [Own.look, hk]
      have ih := Own.look_repl k ob r j
      cases hj : Nat.beq i j with
      | true =>
        have hj := Nat.eq_of_beq_eq_true hj
        subst hj
        have : i ≠ k := fun e => by subst e; simp at hk
        simp [this]
      | false => simp only [ih]
theorem Own.look_set (own : Own) (k : Nat) (ob : OB) (j : Nat) : (own.set k ob).look j = if j = k then some ob else own.look j := by
  unfold Own.set
  cases h : own.look k with
  | none =>
    simp only [Own.look]
    by_cases hj : j = k
    · subst hj; simp
    · have : Nat.beq k j = false := by rw [← Bool.not_eq_true]; intro h; exact hj (Nat.eq_of_beq_eq_true h).symm
      simp [hj, this]
  | some o => rw [Own.look_repl, h]; rfl
def CV.keys : CV → List Nat
  | .p k _ => [k]
  | .fn _ caps => caps.map (·.1)
  | .s _ k _ _ => [k]
  | .ap _ k _ _ _ => [k]
  | _ => []
def AV.cvs : AV → List CV
  | .one x => [x]
  | .ag l => l
  | .tup l => l.flatMap (·.2)
def AV.keys (x : AV) : List Nat := x.cvs.flatMap CV.keys
def CV.isJunk : CV → Bool
  | .junk => true
  | _ => false
def CV.known : CV → Bool
  | .v kn _ => kn
  | .d kl kn _ _ => kl && kn
  | .s kn _ _ _ => kn
  | .e kn _ _ _ => kn
  | .ap kn _ _ _ _ => kn
  | _ => true
def CV.clr : CV → CV
  | .v _ x => .v false x
  | .d _ _ t l => .d false false t l
  | .s _ k i n => .s false k i n
  | .e _ t x off => .e false t x off
  | .ap _ k i m off => .ap false k i m off
  | y => y
def AV.clr : AV → AV
  | .one x => .one x.clr
  | .ag l => .ag (l.map CV.clr)
  | .tup l => .tup (l.map fun q => (q.1, q.2.map CV.clr))
def CV.ofV (kn : Bool) (x : Value) : CV :=
  match x with
  | .func (.func f) first caps => match first.toList, caps.toList with | [], [] => .fn f [] | _, _ => .v kn x
  | x => .v kn x
def AV.ofVal (kn : Bool) : Value → AV
  | .agg cs => .ag (cs.toList.map (CV.ofV kn))
  | .tuple vs => .tup (vs.toList.map fun v => match v with | .agg cs => (true, cs.toList.map (CV.ofV kn)) | v => (false, [CV.ofV kn v]))
  | v => .one (CV.ofV kn v)
def opd (tm : List AV) : Operand → AV
  | .tmp t => tm.getD t (.one (.v true undef))
  | .const v => AV.ofVal true v
  | .global g => .one (.v false (.pointer (some ⟨g, 0, none⟩)))
  | .func f => .one (.fn f [])
/-- The cells of an element. -/
def Ty.cells (kn : Bool) : (t : Ty) → t.den → List CV
  | .int k, x => [.v kn (.int k x)]
  | .bool, x => [.v kn (.bool x)]
  | .str, x => [.v kn (.string x)]
  | .prod a b, x => a.cells kn x.1 ++ b.cells kn x.2
  | .list t, l => [.d kn kn t l]
/-- An element out of cells: is all of it known, what it is, the cells that are left. -/
def Ty.take : (t : Ty) → List CV → Option (Bool × t.den × List CV)
  | .int k, .v kn (.int k' n) :: r => match decide (k' = k) with | true => some (kn, n, r) | false => none
  | .bool, .v kn (.bool b) :: r => some (kn, b, r)
  | .str, .v kn (.string b) :: r => some (kn, b, r)
  | .list t, .d kl kn t' l :: r => if h : t' = t then some (kl && kn, h ▸ l, r) else none
  | .list _, .v kn (.slice none 0 0) :: r => some (kn, [], r)
  | .prod a b, cs =>
    match a.take cs with
    | some (k1, x, r) => match b.take r with | some (k2, y, r') => some (k1 && k2, (x, y), r') | none => none
    | none => none
  | _, _ => none
def Ty.take1 (t : Ty) (cs : List CV) : Option (Bool × t.den) :=
  match t.take cs with
  | some (kn, x, []) => some (kn, x)
  | _ => none
/-- The kind of a type's data. -/
def prods : List Ty → Option Ty
  | [] => none
  | [t] => some t
  | t :: r => (prods r).map (Ty.prod t)
def tyOf (P : Program) : Nat → TypeId → Option Ty
  | 0, _ => none
  | n + 1, t =>
    match P.underlying t with
    | some .bool => some .bool
    | some (.int k) => some (.int k)
    | some .string => some .str
    | some (.slice e) => (tyOf P n e).map .list
    | some (.struct fs) => (fs.toList.mapM fun f => tyOf P n f.type).bind prods
    | some (.array m e) => (tyOf P n e).bind fun x => prods (List.replicate m x)
    | _ => none
def pureRun (P : Program) {α : Type} : Sem α → Option α
  | .pure a => some a
  | .program k => pureRun P (k P)
  | _ => none
theorem pureRun_run {P : Program} {α : Type} : ∀ {s : Sem α} {a : α}, pureRun P s = some a → ∀ w, s.run P w = .ok a w
  | .pure _, _, h, w => by simp only [pureRun, Option.some.injEq] at h; subst h; rfl
  | .program k, _, h, w => by simp only [pureRun] at h; exact pureRun_run (s := k _) h w
  | .load .., _, h, _ | .store .., _, h, _ | .new .., _, h, _ | .shape .., _, h, _ | .freeze .., _, h, _ | .frozen .., _, h, _ | .getObj .., _, h, _ | .setObj .., _, h, _ | .choose .., _, h, _ | .sys .., _, h, _ | .mark .., _, h, _ | .halt _, _, h, _ => by simp [pureRun] at h
/-- Is it a struct's or an array's type; and how many cells. -/
def aggSize (P : Program) (t : TypeId) : Option (Bool × Nat) :=
  match P.underlying t, P.info? t with
  | some (.struct _), some i => some (true, i.size)
  | some (.array _ _), some i => some (true, i.size)
  | some _, some i => some (false, i.size)
  | _, _ => none
def partV (P : Program) (t : TypeId) (cs : Array Value) (off : Nat) : Option Value :=
  match aggSize P t with
  | some (true, n) => some (.agg (cs.extract off (off + n)))
  | some (false, _) => cs[off]?
  | none => none
def fieldsB (P : Program) (eq : TypeId → Value → Value → Option Bool) (xs ys : Array Value) : List Field → Option Bool
  | [] => some true
  | f :: r =>
    if f.name = "_" then none else
    match partV P f.type xs f.offset, partV P f.type ys f.offset with
    | some a, some b =>
      match eq f.type a b, fieldsB P eq xs ys r with
      | some p, some q => some (p && q)
      | _, _ => none
    | _, _ => none
def elemsB (P : Program) (eq : TypeId → Value → Value → Option Bool) (e : TypeId) (n : Nat) (xs ys : Array Value) (i : Nat) : Nat → Option Bool
  | 0 => some true
  | m + 1 =>
    match partV P e xs (i * n), partV P e ys (i * n) with
    | some a, some b =>
      match eq e a b, elemsB P eq e n xs ys (i + 1) m with
      | some p, some q => some (p && q)
      | _, _ => none
    | _, _ => none
def eqB (P : Program) : Nat → TypeId → Value → Value → Option Bool
  | 0, _, _, _ => none
  | d + 1, t, x, y =>
    match P.underlying t, x, y with
    | some .bool, .bool a, .bool b => some (a == b)
    | some (.int _), .int k a, .int k' b => if k = k' then some (a == b) else none
    | some .string, .string a, .string b => some (a == b)
    | some (.struct fs), .agg xs, .agg ys => if P.stoodInHeld t then none else fieldsB P (eqB P d) xs ys fs.toList
    | some (.array len e), .agg xs, .agg ys => match P.info? e with | some i => elemsB P (eqB P d) e i.size xs ys 0 len | none => none
    | _, _, _ => none
def rawC : List CV → Option (Bool × List Value)
  | [] => some (true, [])
  | .v kn x :: r => match rawC r with | some (k, l) => some (kn && k, x :: l) | none => none
  | .fn f [] :: r => match rawC r with | some (k, l) => some (k, .func (.func f) #[] #[] :: l) | none => none
  | _ :: _ => none
def rawA : AV → Option (Bool × Value)
  | .one (.v kn x) => some (kn, x)
  | .one (.fn f []) => some (true, .func (.func f) #[] #[])
  | .ag l => match rawC l with | some (k, vs) => some (k, .agg vs.toArray) | none => none
  | _ => none
def rawOr (x : AV) : Value := match rawA x with | some (_, v) => v | none => undef
def AV.isRaw (x : AV) : Bool := match rawA x with | some _ => true | none => false
def knRaw (x : AV) : Bool := match rawA x with | some (k, _) => k | none => false
def ptrAll : List AV → Option (List (Nat × Nat))
  | [] => some []
  | .one (.p k o) :: r => match ptrAll r with | some l => some ((k, o) :: l) | none => none
  | _ :: _ => none
def splice {α : Type} (cells : List α) (off : Nat) (vs : List α) : List α := cells.take off ++ vs ++ cells.drop (off + vs.length)
def CV.oneB : CV → Bool
  | .v _ x => x.oneCell'
  | .junk => false
  | _ => true
def asCells : AV → Option (List CV)
  | .one x => match x.oneB with | true => some [x] | false => none
  | .ag l => match l.all CV.oneB with | true => some l | false => none
  | _ => none
/-- Which element: the index known, or one test for each. -/
def pickAt {α : Type} (kn : Bool) (i : Int) (f : Nat → Tr α) (j : Nat) : Nat → Tr α
  | 0 => .bad 1
  | m + 1 => Tr.ite kn (i == (j : Int)) (f j) (pickAt kn i f (j + 1) m)
abbrev CallT := FuncId → List AV → Tr AV
/-- A part of a row. -/
def cut {α : Type} (l : List α) (i : Nat) : Option Nat → List α
  | none => match i with | 0 => l | i + 1 => l.drop (i + 1)
  | some n => (l.drop i).take n
def cutLen {α : Type} (l : List α) (i : Nat) : Option Nat → Nat
  | none => match i with | 0 => l.length | i + 1 => l.length - (i + 1)
  | some n => n
/-- A slice of an own row as one that is read alone. -/
def lendC (lk : Nat → Option OB) : CV → Option CV
  | .s kn k i n => match lk k with | some (.row _ kl kn' _ t l) => some (.d (kl && kn) kn' t (cut l i n)) | _ => none
  | .p _ _ => none
  | .ap _ _ _ _ _ => none
  | .fn f caps => match caps with | [] => some (.fn f []) | _ => none
  | .junk => none
  | x => some x
def lendL (lk : Nat → Option OB) : List CV → Option (List CV)
  | [] => some []
  | x :: r => match lendC lk x, lendL lk r with | some y, some l => some (y :: l) | _, _ => none
def lendA (lk : Nat → Option OB) : AV → Option AV
  | .one x => (lendC lk x).map .one
  | .ag l => (lendL lk l).map .ag
  | _ => none
def lendAll (lk : Nat → Option OB) : List AV → Option (List AV)
  | [] => some []
  | x :: r => match lendA lk x, lendAll lk r with | some y, some l => some (y :: l) | _, _ => none
/-- The rows that were lent are not written any more. -/
def freezeL (lk : Nat → Option OB) : List Nat → List (Nat × OB)
  | [] => []
  | k :: r => match lk k with | some (.row _ kl kn e t l) => (k, .row false kl kn e t l) :: freezeL lk r | _ => freezeL lk r
def CV.flat : CV → Bool
  | .v _ _ => true
  | .fn _ [] => true
  | _ => false
def AV.flat (x : AV) : Bool := x.cvs.all CV.flat
def callable (P : Program) (n : FuncId) : Bool :=
  match P.funcs[n]? with
  | some fn => !(fn.name == "runtime.NumGoroutine") && fn.body.isSome
  | none => false
def generic (P : Program) (o : Oper) (ev : Operand → AV) : Tr (AV × List (Nat × OB)) :=
  match (o.op.operands.toList.map ev).all AV.isRaw with
  | false => .bad 3
  | true =>
    match pureRun P (execOp (fun x => rawOr (ev x)) o) with
    | some (.value x) => .ret (AV.ofVal ((o.op.operands.toList.map ev).all knRaw) x, [])
    | _ => .bad 4
def fresh (lk : Nat → Option OB) (key : Nat) : Bool := match lk key with | none => true | some _ => false
/-- The bounds of a slice: known, low, high. -/
def loOf (ev : Operand → AV) : Option Operand → Option (Bool × Int)
  | none => some (true, 0)
  | some y => match ev y with | .one (.v kn (.int _ n)) => some (kn, n) | _ => none
def hiOf (ev : Operand → AV) (len : Nat) (kl : Bool) : Option Operand → Option (Bool × Int)
  | none => some (kl, (len : Int))
  | some y => match ev y with | .one (.v kn (.int _ n)) => some (kn, n) | _ => none
def maxNew : Nat := 140737488355328
/-- Functions that copy a slice (nil for nil, else an own literal of no element that all is appended to), told by their bodies: the slice's type. -/
def isNilTo (d : Nat) (o : Oper) : Bool :=
  match o.op, o.dst, o.guard with
  | .assign (.const (.slice none 0 0)), some d', none => Nat.beq d' d
  | _, _, _ => false
def isMv (d s : Nat) (o : Oper) : Bool :=
  match o.op, o.dst, o.guard with
  | .move (.tmp s'), some d', none => Nat.beq d' d && Nat.beq s' s
  | _, _, _ => false
def isCp (d s : Nat) (o : Oper) : Bool :=
  match o.op, o.dst, o.guard with
  | .assign (.tmp s'), some d', none => Nat.beq d' d && Nat.beq s' s
  | _, _, _ => false
def eqNilT (o : Oper) : Option TypeId :=
  match o.op, o.dst, o.guard with
  | .binOp .eql t (.tmp s) (.const (.slice none 0 0)) _, some d, none => match Nat.beq d 4 && Nat.beq s 3 with | true => some t | false => none
  | _, _, _ => none
def isLitZ (t : TypeId) (o : Oper) : Bool :=
  match o.op, o.dst, o.guard with
  | .buildSlice t' n parts, some d, none => match parts.toList with | [] => Nat.beq d 5 && (Nat.beq n 0 && decide (t' = t)) | _ => false
  | _, _, _ => false
def isAppZ (t : TypeId) (o : Oper) : Bool :=
  match o.op, o.dst, o.guard with
  | .call ⟨.builtin .append, args, ats⟩, some d, none =>
    match args.toList, ats.toList with
    | [.tmp a, .tmp b], [t1, t2] => Nat.beq d 7 && (Nat.beq a 5 && (Nat.beq b 6 && (decide (t1 = t) && decide (t2 = t))))
    | _, _ => false
  | _, _, _ => false
def isT2 : List ResultVar → Bool
  | [.tmp d] => Nat.beq d 2
  | _ => false
def cloneT (P : Program) (n : FuncId) : Option TypeId :=
  match P.funcs[n]? with
  | some fn =>
    match fn.body with
    | some (.seq (.region _ r0 false) (.seq (.seq (.region _ r1 false) (.cond (.tmp c) (.seq (.region _ r2 false) .ret) .skip)) (.seq (.region _ r3 false) .ret))) =>
      match r0.toList, r1.toList, r2.toList, r3.toList with
      | [o0], [o1, o2], [o3], [o4, o5, o6, o7] =>
        match eqNilT o2 with
        | some t =>
          match (isNilTo 2 o0 && (isMv 3 0 o1 && (isNilTo 2 o3 && (isLitZ t o4 && (isMv 6 0 o5 && (isAppZ t o6 && isCp 2 7 o7)))))) && (Nat.beq c 4 && (Nat.beq fn.ntmps 8 && isT2 fn.results.toList)) with
          | true => some t
          | false => none
        | none => none
      | _, _, _, _ => none
    | _ => none
  | none => none
end Go.Proofs.Ytacgchandefjgaa
