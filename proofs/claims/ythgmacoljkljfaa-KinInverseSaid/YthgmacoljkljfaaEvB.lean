/-
  The evaluator: regions, code, functions. No program is named here.
-/
import Derived.Test.YthgmacoljkljfaaEvA
namespace Go.Proofs.Ythgmacoljkljfaa
open Go
inductive Ex where
  | normal | ret
  | exit (id : Nat)
structure Stt where
  tm : List AV
  own : Own
  nx : Nat
def putL (tm : List AV) (dst : Option Tmp) (x : AV) : List AV :=
  match dst with
  | some d => tm.set d x
  | none => tm
section
variable (P : Program) (call : CallT)
/-- How a region is evaluated: which blocks its operations are said to read and write; whether what depends on a test is taken as not known. -/
structure Md where
  kf : Option (List Nat)
  fg : Bool
def AV.clr : AV → AV
  | .v _ x => .v false x
  | y => y
def isPick : Op → Bool
  | .pick .. => true
  | _ => false
/-- What depends on a test. -/
def tested (o : Oper) : Bool := o.guard.isSome || isPick o.op
def clrIf (b : Bool) (x : AV) : AV := match b with | true => x.clr | false => x
/-- The operand that is an address. -/
def addrOf : Op → Option Operand
  | .load _ a => some a
  | .store _ a _ => some a
  | _ => none
/-- The block that is read or written is the one that was said. -/
def keyOk (kf : Md) (i : Nat) (o : Oper) (tm : List AV) : Bool :=
  match kf.kf, addrOf o.op with
  | some l, some a => match opd tm a with | .p k _ => k == l.getD i 0 | _ => false
  | _, _ => true
def runT (kf : Md) (i : Nat) (o : Oper) (st : Stt) : Tr Stt :=
  match keyOk kf i o st.tm with
  | true => (opT P call (st.nx + i) o st.tm st.own).bind fun r => .ret ⟨putL st.tm o.dst (clrIf (kf.fg && tested o) r.1), r.2, st.nx⟩
  | false => .bad 113
def stepT (kf : Md) (ops : Array Oper) (i : Nat) (st : Stt) : Tr Stt :=
  match ops[i]? with
  | none => .ret st
  | some o =>
    match o.guard with
    | none => runT P call kf i o st
    | some (j, want) =>
      match (ops[j]?).bind (·.dst) with
      | none => .ret ⟨putL st.tm o.dst (.v true undef), st.own, st.nx⟩
      | some d =>
        match st.tm[d]? with
        | some (.v kn (.bool b)) => Tr.ite kn (b == want) (runT P call kf i o st) (.ret ⟨putL st.tm o.dst (.v true undef), st.own, st.nx⟩)
        | some .junk => .bad 112
        | _ => .ret ⟨putL st.tm o.dst (.v true undef), st.own, st.nx⟩
def foldT (kf : Md) (ops : Array Oper) : List Nat → Stt → Tr Stt
  | [], st => .ret st
  | i :: r, st => (stepT P call kf ops i st).bind (foldT kf ops r)
def isStore : Op → Bool
  | .store .. => true
  | _ => false
def isNew : Op → Bool
  | .alloc .. | .box .. => true
  | _ => false
def isMem : Op → Bool
  | .store .. | .load .. => true
  | _ => false
def indep (kf : Md) (ops : Array Oper) (k i : Nat) : Bool :=
  match ops[k]?, ops[i]? with
  | some a, some b => a.apart ops b && ((!(isStore a.op && isMem b.op) && !(isStore b.op && isMem a.op)) || (match kf.kf with | some l => !(l.getD k 0 == l.getD i 0) | none => false))
  | _, _ => false
def masks (ops : Array Oper) : List Nat := (Region.before ops).toList
def certOk (ops : Array Oper) (A : List Nat) : Bool :=
  (List.range ops.size).all fun i => (List.range ops.size).all fun k => !(A.getD i 0).testBit k ||
    (match ops[i]? with | some o => o.after.toList.any fun e => Region.binds .any e && decide (e.on < i) && (e.on == k || (A.getD e.on 0).testBit k) | none => false)
def pairsOk (kf : Md) (ops : Array Oper) (A : List Nat) : Bool :=
  (List.range ops.size).all fun i => (List.range i).all fun k => (A.getD i 0).testBit k || indep kf ops k i
def edgesOk (ops : Array Oper) : Bool := (List.range ops.size).all fun i => match ops[i]? with | some o => o.after.toList.all fun e => !Region.binds .any e || decide (e.on < i) | none => false
def drawOk (kf : Md) (ops : Array Oper) : Bool := edgesOk ops && certOk ops (masks ops) && pairsOk kf ops (masks ops)
def firstOf {α : Type} : Tr α → Option α
  | .ret a => some a
  | .br _ t e => match firstOf t with | some a => some a | none => firstOf e
  | .bad _ => none
/-- A guess at the blocks that a region's operations read and write: what their addresses are at its end. -/
def guessKeys (ops : Array Oper) (st : Stt) : List Nat :=
  match firstOf (foldT P call ⟨none, false⟩ ops (List.range ops.size) st) with
  | some s => ops.toList.map fun o => match addrOf o.op with | some a => (match opd s.tm a with | .p k _ => k | _ => 0) | none => 0
  | none => []
/-- Temporaries whose test has been met on the way. -/
abbrev Dec := List (Nat × Bool)
def Dec.look : Dec → Nat → Option Bool
  | [], _ => none
  | (d, b) :: r, t => match d == t with | true => some b | false => Dec.look r t
def Dec.drop (dec : Dec) : Option Tmp → Dec
  | none => dec
  | some d => dec.filter fun q => !(q.1 == d)
def test {α : Type} (dec : Dec) (d : Nat) (kn b : Bool) (f : Bool → Dec → Tr α) : Tr α :=
  match dec.look d with
  | some c => f c dec
  | none =>
    match kn with
    | true => f b dec
    | false => .br b (f true ((d, true) :: dec)) (f false ((d, false) :: dec))
def Dec.prop (dec : Dec) (tm : List AV) (dst : Option Tmp) (x : Operand) : Dec :=
  match dst, x with
  | some d, .tmp u =>
    match dec.look u, tm[u]? with
    | some c, some _ => (d, c) :: dec.drop dst
    | _, _ => dec.drop dst
  | _, _ => dec.drop dst
def runD (kf : Md) (i : Nat) (o : Oper) (st : Stt) (dec : Dec) : Tr (Stt × Dec) :=
  match o.op with
  | .pick (.tmp s) x y =>
    match st.tm[s]? with
    | some (.v kn (.bool t)) => test dec s kn t fun c dec => match c with
      | true => .ret (⟨putL st.tm o.dst (clrIf kf.fg (opd st.tm x)), st.own, st.nx⟩, dec.prop st.tm o.dst x)
      | false => .ret (⟨putL st.tm o.dst (clrIf kf.fg (opd st.tm y)), st.own, st.nx⟩, dec.prop st.tm o.dst y)
    | _ => .bad 111
  | .move x | .assign x => .ret (⟨putL st.tm o.dst (clrIf (kf.fg && tested o) (opd st.tm x)), st.own, st.nx⟩, dec.prop st.tm o.dst x)
  | _ => (runT P call kf i o st).bind fun s => .ret (s, dec.drop o.dst)
def stepD (kf : Md) (ops : Array Oper) (i : Nat) (st : Stt) (dec : Dec) : Tr (Stt × Dec) :=
  match ops[i]? with
  | none => .ret (st, dec)
  | some o =>
    match o.guard with
    | none => runD P call kf i o st dec
    | some (j, want) =>
      match (ops[j]?).bind (·.dst) with
      | none => .ret (⟨putL st.tm o.dst (.v true undef), st.own, st.nx⟩, dec.drop o.dst)
      | some d =>
        match st.tm[d]? with
        | some (.v kn (.bool b)) => test dec d kn b fun c dec => match c == want with
          | true => runD P call kf i o st dec
          | false => .ret (⟨putL st.tm o.dst (.v true undef), st.own, st.nx⟩, dec.drop o.dst)
        | some .junk => .bad 112
        | _ => .ret (⟨putL st.tm o.dst (.v true undef), st.own, st.nx⟩, dec.drop o.dst)
def foldD (kf : Md) (ops : Array Oper) : List Nat → Stt → Dec → Tr (Stt × Dec)
  | [], st, dec => .ret (st, dec)
  | i :: r, st, dec => (stepD P call kf ops i st dec).bind fun q => foldD kf ops r q.1 q.2
def zipCond (b : Bool) : Value → Value → Option Value
  | .bool x, .bool y => some (.bool (cond b x y))
  | .int k x, .int k' y => match decide (k = k') with | true => some (.int k (cond b x y)) | false => none
  | .string x, .string y => some (.string (cond b x y))
  | _, _ => none
def zipConds (b : Bool) : List Value → List Value → Option (List Value)
  | [], [] => some []
  | x :: xs, y :: ys => match zipCond b x y, zipConds b xs ys with | some z, some zs => some (z :: zs) | _, _ => none
  | _, _ => none
def zipVal (b : Bool) : Value → Value → Option Value
  | .agg xs, .agg ys => match zipConds b xs.toList ys.toList with | some zs => some (.agg zs.toArray) | none => none
  | x, y => zipCond b x y
def zipVals (b : Bool) : List Value → List Value → Option (List Value)
  | [], [] => some []
  | x :: xs, y :: ys => match zipVal b x y, zipVals b xs ys with | some z, some zs => some (z :: zs) | _, _ => none
  | _, _ => none
/-- One value for a whole tree, where its answers are alike in kind. -/
def zipAny (b : Bool) : Value → Value → Option Value
  | .tuple xs, .tuple ys => match zipVals b xs.toList ys.toList with | some zs => some (.tuple zs.toArray) | none => none
  | x, y => zipVal b x y
def mergeV : Tr (Bool × Value) → Option Value
  | .ret r => some r.2
  | .br b t e => match mergeV t, mergeV e with | some x, some y => zipAny b x y | _, _ => none
  | .bad _ => none
def mergeF (t : Tr (Bool × Value)) : Tr (Bool × Value) :=
  match t with
  | .br _ _ _ => match mergeV t with | some x => .ret (false, x) | none => t
  | _ => t
/-- What temporary d holds at the ends of a tree, as one value. -/
def mergeT (d : Nat) : Tr (Stt × Dec) → Option Value
  | .ret r => match r.1.tm[d]? with | some (.v _ x) => some x | _ => none
  | .br b t e => match mergeT d t, mergeT d e with | some x, some y => zipVal b x y | _, _ => none
  | .bad _ => none
def noBad : Tr (Stt × Dec) → Bool
  | .ret _ => true
  | .br _ t e => noBad t && noBad e
  | .bad _ => false
/-- Operations that leave own memory as it is. -/
def stillOf (ops : Array Oper) (is : List Nat) : Bool := is.all fun i => match ops[i]? with | some o => !isStore o.op && !isNew o.op | none => true
def mergeTm (t : Tr (Stt × Dec)) : List Nat → List AV → List AV
  | [], tm => tm
  | d :: r, tm => mergeTm t r (tm.set d (match mergeT d t with | some x => .v false x | none => .junk))
def dstsOf (ops : Array Oper) (is : List Nat) : List Nat := is.filterMap fun i => (ops[i]?).bind (·.dst)
def Dec.drops (dec : Dec) (l : List Nat) : Dec := l.foldl (fun dec d => dec.drop (some d)) dec
def mergeR (ops : Array Oper) (is : List Nat) (st : Stt) (dec : Dec) (t : Tr (Stt × Dec)) : Tr (Stt × Dec) :=
  match t with
  | .br _ _ _ => match stillOf ops is && noBad t with | true => .ret (⟨mergeTm t (dstsOf ops is) st.tm, st.own, st.nx⟩, dec.drops (dstsOf ops is)) | false => t
  | _ => t
/-- The operations up to the one that picks by temporary d. -/
def spanPick (ops : Array Oper) (d : Nat) : List Nat → Option (List Nat × List Nat)
  | [] => none
  | i :: r =>
    match (match ops[i]? with | some o => (match o.op with | .pick (.tmp e) _ _ => e == d | _ => false) | none => false) with
    | true => some ([i], r)
    | false => match spanPick ops d r with | some (a, b) => some (i :: a, b) | none => none
/-- The temporary on whose test, not known and not met yet, an operation depends. -/
def openTest (ops : Array Oper) (i : Nat) (st : Stt) (dec : Dec) : Option Nat :=
  match ops[i]? with
  | none => none
  | some o =>
    match (match o.guard with
      | some (j, _) => (ops[j]?).bind (·.dst)
      | none => match o.op with | .pick (.tmp e) _ _ => some e | _ => none) with
    | none => none
    | some d =>
      match dec.look d, st.tm[d]? with
      | none, some (.v false (.bool _)) => some d
      | _, _ => none
/-- A region's operations, merged behind each pick. -/
def segD (kf : Md) (ops : Array Oper) : Nat → List Nat → Stt → Dec → Tr (Stt × Dec)
  | 0, is, st, dec => foldD P call kf ops is st dec
  | _ + 1, [], st, dec => .ret (st, dec)
  | n + 1, i :: r, st, dec =>
    match (match openTest ops i st dec with | some d => spanPick ops d (i :: r) | none => none) with
    | some (seg, rest) =>
      match seg.all fun j => match ops[j]? with | some o => tested o | none => false with
      | true => (mergeR ops seg st dec (foldD P call kf ops seg st dec)).bind fun q => segD kf ops n rest q.1 q.2
      | false => (stepD P call kf ops i st dec).bind fun q => segD kf ops n r q.1 q.2
    | none => (stepD P call kf ops i st dec).bind fun q => segD kf ops n r q.1 q.2
def allKnown (st : Stt) : Bool := st.tm.all fun x => match x with
  | .v kn _ => kn
  | .p k _ => (match st.own k with | some cs => cs.all (fun y => match y with | .v kn _ => kn | .junk => false | _ => true) | none => false)
  | .fn _ _ => true
  | .junk => false
def regionT (kf : Md) (ops : Array Oper) (st : Stt) (dec : Dec) : Tr (Stt × Dec) :=
  match kf.fg with
  | false => mergeR ops (List.range ops.size) st dec (foldD P call kf ops (List.range ops.size) st dec)
  | true => segD P call kf ops ops.size (List.range ops.size) st dec
def modeOf (ops : Array Oper) (draw : Bool) (st : Stt) : Option Md :=
  match !draw || drawOk ⟨none, false⟩ ops with
  | true => some ⟨none, !allKnown st⟩
  | false => match drawOk ⟨some (guessKeys P call ops st), false⟩ ops with
    | true => some ⟨some (guessKeys P call ops st), !allKnown st⟩
    | false => none
def evalC : Nat → Code → Stt → Dec → Tr (Ex × Stt × Dec)
  | 0, _, _, _ => .bad 101
  | n + 1, c, st, dec =>
    match c with
    | .skip => .ret (.normal, st, dec)
    | .label _ => .ret (.normal, st, dec)
    | .ret => .ret (.ret, st, dec)
    | .exit id => .ret (.exit id, st, dec)
    | .seq a b => (evalC n a st dec).bind fun r =>
      match r.1 with
      | .normal => evalC n b r.2.1 r.2.2
      | e => .ret (e, r.2)
    | .cond (.tmp d) a b =>
      match st.tm[d]? with
      | some (.v kn (.bool t)) => test dec d kn t fun c dec => match c with | true => evalC n a st dec | false => evalC n b st dec
      | _ => .bad 102
    | .cond (.const (.bool t)) a b => match t with | true => evalC n a st dec | false => evalC n b st dec
    | .block id b => (evalC n b st dec).bind fun r =>
      match r.1 with
      | .exit id' => match decide (id' = id) with | true => .ret (.normal, r.2) | false => .ret (.exit id', r.2)
      | e => .ret (e, r.2)
    | .loop b => (evalC n b st dec).bind fun r =>
      match r.1 with
      | .normal => evalC n (.loop b) r.2.1 r.2.2
      | e => .ret (e, r.2)
    | .region _ ops draw =>
      match modeOf P call ops draw st with
      | some kf => (regionT P call kf ops st dec).bind fun s => .ret (.normal, ⟨s.1.tm, s.1.own, s.1.nx + ops.size⟩, s.2)
      | none => .bad 103
    | _ => .bad 104
def resAVs (st : Stt) : List ResultVar → Option (List AV)
  | [] => some []
  | .tmp t :: r => match resAVs st r with | some l => some (opd st.tm (.tmp t) :: l) | none => none
  | .cell t ty :: r =>
    match opd st.tm (.tmp t) with
    | .p k off =>
      match st.own k, aggSize P ty, resAVs st r with
      | some cells, some (true, n), some l =>
        match rawAll ((cells.drop off).take n) with
        | some (kn, vs) => match vs.length == n with | true => some (.v kn (.agg vs.toArray) :: l) | false => none
        | none => none
      | some cells, some (false, _), some l => match cells[off]? with | some x => some (x :: l) | none => none
      | _, _, _ => none
    | _ => none
def answer (fn : Func) (st : Stt) : Tr (Bool × Value) :=
  match resAVs P st fn.results.toList with
  | some ts =>
    match rawAll ts with
    | some (kn, [x]) => .ret (kn, x)
    | some (kn, l) => .ret (kn, .tuple l.toArray)
    | none => .bad 105
  | none => .bad 106
abbrev Sums := FuncId → List (Bool × Value) → Option (Tr (Bool × Value))
end
def evalF (P : Program) (S : Sums) : Nat → FuncId → List (Bool × Value) → Tr (Bool × Value)
  | 0, _, _ => .bad 107
  | d + 1, f, args =>
    match S f args with
    | some t => t
    | none =>
      match P.funcs[f]? with
      | some fn =>
        match fn.body with
        | some body =>
          mergeF ((evalC P (evalF P S d) 100000 body ⟨(args.map fun x => AV.v x.1 x.2) ++ List.replicate (fn.ntmps - args.length) (.v true undef), fun _ => none, 0⟩ []).bind fun r =>
            match r.1 with
            | .exit _ => .bad 108
            | _ => answer P fn r.2.1)
        | none => .bad 109
      | none => .bad 110
end Go.Proofs.Ythgmacoljkljfaa
