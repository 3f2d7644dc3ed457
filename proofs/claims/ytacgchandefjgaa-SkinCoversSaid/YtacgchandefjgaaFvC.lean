/-
  The evaluator: regions, code, functions. No program is named here.
-/
import Derived.Test.YtacgchandefjgaaFvB
namespace Go.Proofs.Ytacgchandefjgaa
open Go
inductive Ex where
  | normal | ret
  | exit (id : Nat)
structure Stt where
  tm : List AV
  own : Own
  nx : Nat
def putL (tm : List AV) (dst : Option Tmp) (x : AV) : List AV :=
  match dst with
  | some d => tm.set d x
  | none => tm
def has (own : Own) (k : Nat) : Bool := match own.look k with | some _ => true | none => false
def OB.keys : OB → List Nat
  | .cells l => l.flatMap CV.keys
  | _ => []
/-- May an operation read own memory; write there; make new blocks. -/
def rdOp : Op → Bool
  | .load .. | .store .. | .indexAddr .. | .slice .. | .buildSlice .. | .convert .. => true
  | .call cl => match cl.callee with | .builtin .append | .builtin .len | .builtin .copy | .builtin .clear | .value _ => true | _ => false
  | _ => false
def wrOp : Op → Bool
  | .store .. | .buildSlice .. => true
  | .call cl => match cl.callee with | .builtin .append | .builtin .copy | .builtin .clear | .value _ => true | _ => false
  | _ => false
def newOp : Op → Bool
  | .alloc .. | .box .. | .buildSlice .. | .makeSlice .. => true
  | .slice _ _ _ _ (some _) => true
  | .call cl => match cl.callee with | .builtin .append | .value _ => true | _ => false
  | _ => false
def isPick : Op → Bool
  | .pick .. => true
  | _ => false
/-- Calls that are given own memory, and hand it back. -/
abbrev ICallT := FuncId → List AV → Own → Nat → Tr (AV × Own)
/-- How the operations of a region may come: in the text's order; in any, but for what their kinds tell; in any, but for the blocks that they are said to touch (all blocks: true; with c: those that others read are looked at behind a call). -/
inductive Kf where
  | seq
  | syn
  | gs (c : Bool) (l : List (Bool × List Nat))
section
variable (P : Program) (call : CallT) (icall : ICallT) (On : FuncId → Bool)
/-- How a region is evaluated: which blocks its operations are said to read and write; whether what depends on a test is taken as not known. -/
structure Md where
  kf : Kf
  fg : Bool
def clrIf (b : Bool) (x : AV) : AV := match b with | true => x.clr | false => x
def keysOf (o : Oper) (ev : Operand → AV) : List Nat :=
  match rdOp o.op with
  | true => (o.op.operands.toList.map ev).flatMap AV.keys
  | false => []
def AV.isJunk : AV → Bool
  | .one x => x.isJunk
  | _ => false
def lkOf (ks : List Nat) (own : Own) (k : Nat) : Option OB := match ks.contains k with | true => own.look k | false => none
def guessOk (kf : Md) (i : Nat) (ks : List Nat) : Bool :=
  match kf.kf with
  | .gs _ l => ks.all fun k => (l.getD i (false, [])).2.contains k
  | _ => true
def globOk (kf : Md) (i : Nat) : Bool :=
  match kf.kf with
  | .gs _ l => (l.getD i (false, [])).1
  | .syn => false
  | .seq => true
def CV.ptr : CV → Bool
  | .p _ _ => true
  | .ap .. => true
  | .e .. => true
  | .fn _ (_ :: _) => true
  | _ => false
def AV.ptr (x : AV) : Bool := x.cvs.any CV.ptr
/-- A call that is given own memory: the function, its arguments. -/
def openOf (o : Oper) (ev : Operand → AV) : Option (FuncId × List AV) :=
  match o.op with
  | .call cl =>
    match cl.callee with
    | .value f =>
      match ev f with
      | .one (.fn n caps) =>
        match (On n || !caps.isEmpty || (cl.args.toList.map ev).any AV.ptr) && callable P n with
        | true => some (n, cl.args.toList.map ev ++ caps.map fun q => .one (.p q.1 q.2))
        | false => none
      | _ => none
    | _ => none
  | _ => none
def wrOk (o : Oper) (key : Nat) (own : Own) (ks : List Nat) (ws : List (Nat × OB)) : Bool :=
  ws.all fun q => match Nat.beq q.1 key with | true => newOp o.op && !(has own key) | false => wrOp o.op && ks.contains q.1
/-- What an operation may hand on: what its operands lead to, and what that leads to. -/
def allowed (o : Oper) (ev : Operand → AV) (ks : List Nat) (lk : Nat → Option OB) (ws : List (Nat × OB)) : List Nat :=
  (o.op.operands.toList.map ev).flatMap AV.keys ++ (ks.flatMap fun k => match lk k with | some ob => ob.keys | none => []) ++ ws.map (·.1)
def resOk (al : List Nat) (x : AV) (ws : List (Nat × OB)) : Bool := x.keys.all (fun k => al.contains k) && ws.all fun q => q.2.keys.all fun k => al.contains k
/-- Types without pointers of any kind. -/
def flatT (P : Program) : Nat → TypeId → Bool
  | 0, _ => false
  | n + 1, t =>
    match P.underlying t with
    | some .bool | some (.int _) | some .string => true
    | some (.struct fs) => fs.all fun f => flatT P n f.type
    | some (.array _ e) => flatT P n e
    | _ => false
/-- Calls of known functions whose parameters are flat: they may not write. -/
def calm (op : Op) : Bool :=
  match op with
  | .call cl =>
    match cl.callee with
    | .value (.func n) => !On n && (match P.funcs[n]? with | some fn => fn.params.all (flatT P 8) | none => false)
    | _ => false
  | _ => false
def fin1 (o : Oper) (key : Nat) (ev : Operand → AV) (own : Own) (ks : List Nat) (r : AV × List (Nat × OB)) : Tr (AV × Own) :=
  match wrOk o key own ks r.2 && resOk (allowed o ev ks (lkOf ks own) r.2) r.1 r.2, calm P On o.op && !r.2.isEmpty with
  | true, false => .ret (r.1, own.puts r.2)
  | _, _ => .bad 114
def deadT {α : Type} : Tr α → Bool
  | .ret _ => false
  | .br _ t e => deadT t && deadT e
  | .bad _ => true
def noBad {α : Type} : Tr α → Bool
  | .ret _ => true
  | .br _ t e => noBad t && noBad e
  | .bad _ => false
/-- The tests that must hold. -/
def okT {α : Type} : Tr α → Bool
  | .ret _ => true
  | .br b t e =>
    match deadT e, noBad t with
    | true, true => b
    | true, false => b && okT t
    | false, _ =>
      match deadT t, noBad e with
      | true, true => !b
      | true, false => !b && okT e
      | false, _ => cond b (okT t) (okT e)
  | .bad _ => false
def eqL {α : Type} (f : α → α → Bool) : List α → List α → Bool
  | [], [] => true
  | x :: xs, y :: ys => f x y && eqL f xs ys
  | _, _ => false
def Ty.deq : (t : Ty) → t.den → t.den → Bool
  | .int _, (a : Int), (b : Int) => decide (a = b)
  | .bool, a, b => a == b
  | .str, (a : ByteArray), (b : ByteArray) => decide (a = b)
  | .prod s t, x, y => s.deq x.1 y.1 && t.deq x.2 y.2
  | .list t, (l : List t.den), (l' : List t.den) => eqL t.deq l l'
/-- Alike as they stand. -/
def sameC : CV → CV → Tr Unit
  | .v kn (.int k a), .v kn' (.int k' b) => match (kn == kn') && decide (k = k') with | true => Tr.ite kn (decide (a = b)) (.ret ()) (.bad 127) | false => .bad 127
  | .v kn (.bool a), .v kn' (.bool b) => match kn == kn' with | true => Tr.ite kn (a == b) (.ret ()) (.bad 127) | false => .bad 127
  | .v kn (.string a), .v kn' (.string b) => match kn == kn' with | true => Tr.ite kn (decide (a = b)) (.ret ()) (.bad 127) | false => .bad 127
  | .p k o, .p k' o' => match Nat.beq k k' && Nat.beq o o' with | true => .ret () | false => .bad 127
  | .fn f c, .fn f' c' => match Nat.beq f f' && decide (c = c') with | true => .ret () | false => .bad 127
  | .junk, .junk => .ret ()
  | .s kn k i n, .s kn' k' i' n' => match (kn == kn') && (Nat.beq k k' && (Nat.beq i i' && decide (n = n'))) with | true => .ret () | false => .bad 127
  | .d kl kn t l, .d kl' kn' t' l' => if h : t' = t then (match (kl == kl') && (kn == kn') with | true => Tr.ite (kl && kn) (eqL t.deq l (h ▸ l')) (.ret ()) (.bad 127) | false => .bad 127) else .bad 127
  | _, _ => .bad 127
def sameCs : List CV → List CV → Tr Unit
  | [], [] => .ret ()
  | x :: xs, y :: ys => (sameC x y).bind fun _ => sameCs xs ys
  | _, _ => .bad 127
def sameB (own own' : Own) (k : Nat) : Tr Unit :=
  match own.look k, own'.look k with
  | none, _ => .ret ()
  | some (.cells l), some (.cells l') => sameCs l l'
  | some (.row mu kl kn e t l), some (.row mu' kl' kn' e' t' l') =>
    if h : t' = t then (match (mu == mu') && ((kl == kl') && ((kn == kn') && decide (e = e'))) with | true => Tr.ite (kl && kn) (eqL t.deq l (h ▸ l')) (.ret ()) (.bad 127) | false => .bad 127) else .bad 127
  | _, _ => .bad 127
def sameBs (own own' : Own) : List Nat → Tr Unit
  | [] => .ret ()
  | k :: r => (sameB own own' k).bind fun _ => sameBs own own' r
def knT {α : Type} : Tr α → Bool
  | .br .. => false
  | _ => true
def othK (l : List (Bool × List Nat)) (i : Nat) : List Nat := ((l.filter fun q => !q.1).flatMap (·.2)).filter fun k => !(l.getD i (false, [])).2.contains k
def dedup : List Nat → List Nat
  | [] => []
  | a :: r => match r.contains a with | true => dedup r | false => a :: dedup r
def keepT {α : Type} (kf : Md) (i : Nat) (own own' : Own) (t : Tr α) : Tr α :=
  match kf.kf with
  | .gs true l => Tr.ite (knT (sameBs own own' (dedup (othK l i)))) (okT (sameBs own own' (dedup (othK l i)))) t (.bad 127)
  | _ => t
def runE (kf : Md) (i : Nat) (o : Oper) (ev : Operand → AV) (own : Own) (nx : Nat) : Tr (AV × Own) :=
  match o.op with
  | .move x | .assign x => .ret (ev x, own)
  | .pick c x y =>
    match ev c with
    | .one (.v kn (.bool t)) => Tr.ite kn t (.ret (clrIf kf.fg (ev x), own)) (.ret (clrIf kf.fg (ev y), own))
    | _ => .bad 119
  | _ =>
    match openOf P On o ev with
    | some q =>
      match o.op.operands.toList.any (fun y => (ev y).isJunk), globOk kf i && !calm P On o.op with
      | false, true => (icall q.1 q.2 own ((nx + i + 1) * 1000)).bind fun r =>
        match r.1.keys.all (has r.2) && (r.2.all (fun q => q.2.keys.all (has r.2)) && own.all fun q => has r.2 q.1) with
        | true => keepT kf i own r.2 (.ret r)
        | false => .bad 125
      | _, _ => .bad 126
    | none =>
    match o.op.operands.toList.any (fun y => (ev y).isJunk), guessOk kf i (keysOf o ev) with
    | false, true => (opF P call (lkOf (keysOf o ev) own) (nx + i) o ev).bind (fin1 P On o (nx + i) ev own (keysOf o ev))
    | true, _ => .bad 115
    | _, false => .bad 113
def runT (kf : Md) (i : Nat) (o : Oper) (st : Stt) : Tr Stt := (runE P call icall On kf i o (opd st.tm) st.own st.nx).bind fun r => .ret ⟨putL st.tm o.dst r.1, r.2, st.nx⟩
def stepT (kf : Md) (ops : Array Oper) (i : Nat) (st : Stt) : Tr Stt :=
  match ops[i]? with
  | none => .ret st
  | some o =>
    match o.guard with
    | none => runT P call icall On kf i o st
    | some (j, want) =>
      match (ops[j]?).bind (·.dst) with
      | none => .ret ⟨putL st.tm o.dst undefA, st.own, st.nx⟩
      | some d =>
        match st.tm[d]? with
        | some (.one (.v kn (.bool b))) => Tr.ite kn (b == want) (runT P call icall On kf i o st) (.ret ⟨putL st.tm o.dst undefA, st.own, st.nx⟩)
        | some (.one .junk) => .bad 112
        | _ => .ret ⟨putL st.tm o.dst undefA, st.own, st.nx⟩
def foldT (kf : Md) (ops : Array Oper) : List Nat → Stt → Tr Stt
  | [], st => .ret st
  | i :: r, st => (stepT P call icall On kf ops i st).bind (foldT kf ops r)
def disj (a b : List Nat) : Bool := a.all fun k => !(b.contains k)
/-- Own memory is not touched. -/
def quiet (o : Op) : Bool := !(rdOp o) && !(wrOp o) && !(newOp o)
def mayW (o : Op) : Bool := wrOp o || newOp o
def indep (kf : Md) (ops : Array Oper) (k i : Nat) : Bool :=
  match ops[k]?, ops[i]? with
  | some a, some b => a.apart ops b &&
    (match kf.kf with
    | .gs c l =>
      match (l.getD k (false, [])).1, (l.getD i (false, [])).1 with
      | false, false => ((!(wrOp a.op && rdOp b.op) && !(wrOp b.op && rdOp a.op)) || disj (l.getD k (false, [])).2 (l.getD i (false, [])).2) && (!(l.any (·.1)) || !(mayW a.op && mayW b.op))
      | true, false => quiet b.op || (c && (!mayW b.op && disj (l.getD k (false, [])).2 (l.getD i (false, [])).2))
      | false, true => quiet a.op || (c && (!mayW a.op && disj (l.getD i (false, [])).2 (l.getD k (false, [])).2))
      | true, true => false
    | .syn => !(wrOp a.op && rdOp b.op) && !(wrOp b.op && rdOp a.op)
    | .seq => false)
  | _, _ => false
def masks (ops : Array Oper) : List Nat := (Region.before ops).toList
def certOk (ops : Array Oper) (A : List Nat) : Bool :=
  (List.range ops.size).all fun i => (List.range ops.size).all fun k => !(A.getD i 0).testBit k ||
    (match ops[i]? with | some o => o.after.toList.any fun e => Region.binds .any e && decide (e.on < i) && (e.on == k || (A.getD e.on 0).testBit k) | none => false)
def pairsOk (kf : Md) (ops : Array Oper) (A : List Nat) : Bool :=
  (List.range ops.size).all fun i => (List.range i).all fun k => (A.getD i 0).testBit k || indep kf ops k i
def edgesOk (ops : Array Oper) : Bool := (List.range ops.size).all fun i => match ops[i]? with | some o => o.after.toList.all fun e => !Region.binds .any e || decide (e.on < i) | none => false
def drawOk (kf : Md) (ops : Array Oper) : Bool := edgesOk ops && certOk ops (masks ops) && pairsOk kf ops (masks ops)
def firstOf {α : Type} : Tr α → Option α
  | .ret a => some a
  | .br _ t e => match firstOf t with | some a => some a | none => firstOf e
  | .bad _ => none
/-- A guess at the blocks that a region's operations read and write: what their operands lead to at its end. -/
def stepG (ops : Array Oper) (st : Stt) (i : Nat) : Stt :=
  match ops[i]? with
  | none => st
  | some o => match firstOf (runT P call icall On ⟨.seq, false⟩ i o st) with | some s => s | none => ⟨putL st.tm o.dst undefA, st.own, st.nx⟩
/-- What blocks lead to. -/
def reach (own : Own) : Nat → List Nat → List Nat → List Nat
  | 0, _, acc => acc
  | _, [], acc => acc
  | n + 1, k :: r, acc =>
    match acc.contains k with
    | true => reach own n r acc
    | false => reach own n ((match own.look k with | some ob => ob.keys | none => []) ++ r) (k :: acc)
def keysAt (ops : Array Oper) (s : Stt) : List (Bool × List Nat) := ops.toList.map fun o =>
  match (openOf P On o (opd s.tm)).isSome with
  | true => (true, reach s.own 300 (keysOf o (opd s.tm)) [])
  | false => (false, keysOf o (opd s.tm))
def guessKeys (ops : Array Oper) (st : Stt) : List (Bool × List Nat) := keysAt P On ops ((List.range ops.size).foldl (stepG P call icall On ops) st)
/-- Temporaries whose test has been met on the way. -/
abbrev Dec := List (Nat × Bool)
def Dec.look : Dec → Nat → Option Bool
  | [], _ => none
  | (d, b) :: r, t => match d == t with | true => some b | false => Dec.look r t
def Dec.drop (dec : Dec) : Option Tmp → Dec
  | none => dec
  | some d => dec.filter fun q => !(q.1 == d)
def test {α : Type} (dec : Dec) (d : Nat) (kn b : Bool) (f : Bool → Dec → Tr α) : Tr α :=
  match dec.look d with
  | some c => f c dec
  | none =>
    match kn with
    | true => f b dec
    | false => .br b (f true ((d, true) :: dec)) (f false ((d, false) :: dec))
def Dec.prop (dec : Dec) (tm : List AV) (dst : Option Tmp) (x : Operand) : Dec :=
  match dst, x with
  | some d, .tmp u =>
    match dec.look u, tm[u]? with
    | some c, some _ => (d, c) :: dec.drop dst
    | _, _ => dec.drop dst
  | some d, .const (.bool b) => (d, b) :: dec.drop dst
  | _, _ => dec.drop dst
def runD (kf : Md) (i : Nat) (o : Oper) (st : Stt) (dec : Dec) : Tr (Stt × Dec) :=
  match o.op with
  | .pick (.tmp s) x y =>
    match st.tm[s]? with
    | some (.one (.v kn (.bool t))) => test dec s kn t fun c dec => match c with
      | true => .ret (⟨putL st.tm o.dst (clrIf kf.fg (opd st.tm x)), st.own, st.nx⟩, dec.prop st.tm o.dst x)
      | false => .ret (⟨putL st.tm o.dst (clrIf kf.fg (opd st.tm y)), st.own, st.nx⟩, dec.prop st.tm o.dst y)
    | _ => .bad 111
  | .move x | .assign x => .ret (⟨putL st.tm o.dst (opd st.tm x), st.own, st.nx⟩, dec.prop st.tm o.dst x)
  | _ => (runT P call icall On kf i o st).bind fun s => .ret (s, dec.drop o.dst)
def stepD (kf : Md) (ops : Array Oper) (i : Nat) (st : Stt) (dec : Dec) : Tr (Stt × Dec) :=
  match ops[i]? with
  | none => .ret (st, dec)
  | some o =>
    match o.guard with
    | none => runD P call icall On kf i o st dec
    | some (j, want) =>
      match (ops[j]?).bind (·.dst) with
      | none => .ret (⟨putL st.tm o.dst undefA, st.own, st.nx⟩, dec.drop o.dst)
      | some d =>
        match st.tm[d]? with
        | some (.one (.v kn (.bool b))) => test dec d kn b fun c dec => match c == want with
          | true => runD P call icall On kf i o st dec
          | false => .ret (⟨putL st.tm o.dst undefA, st.own, st.nx⟩, dec.drop o.dst)
        | some (.one .junk) => .bad 112
        | _ => .ret (⟨putL st.tm o.dst undefA, st.own, st.nx⟩, dec.drop o.dst)
def foldD (kf : Md) (ops : Array Oper) : List Nat → Stt → Dec → Tr (Stt × Dec)
  | [], st, dec => .ret (st, dec)
  | i :: r, st, dec => (stepD P call icall On kf ops i st dec).bind fun q => foldD kf ops r q.1 q.2
def zipCV (b : Bool) : CV → CV → Option CV
  | .v _ (.bool x), .v _ (.bool y) => some (.v false (.bool (cond b x y)))
  | .v _ (.int k x), .v _ (.int k' y) => match decide (k = k') with | true => some (.v false (.int k (cond b x y))) | false => none
  | .v _ (.string x), .v _ (.string y) => some (.v false (.string (cond b x y)))
  | .d _ _ t l, .d _ _ t' l' => if h : t' = t then some (.d false false t (cond b l (h ▸ l'))) else none
  | _, _ => none
def zipCVs (b : Bool) : List CV → List CV → Option (List CV)
  | [], [] => some []
  | x :: xs, y :: ys => match zipCV b x y, zipCVs b xs ys with | some z, some zs => some (z :: zs) | _, _ => none
  | _, _ => none
def zipParts (b : Bool) : List (Bool × List CV) → List (Bool × List CV) → Option (List (Bool × List CV))
  | [], [] => some []
  | x :: xs, y :: ys => match x.1 == y.1, zipCVs b x.2 y.2, zipParts b xs ys with | true, some z, some zs => some ((x.1, z) :: zs) | _, _, _ => none
  | _, _ => none
/-- One value for two, where they are alike in kind. -/
def zipA (b : Bool) : AV → AV → Option AV
  | .one x, .one y => (zipCV b x y).map .one
  | .ag xs, .ag ys => (zipCVs b xs ys).map .ag
  | .tup xs, .tup ys => (zipParts b xs ys).map .tup
  | _, _ => none
def mergeV : Tr AV → Option AV
  | .ret r => some r
  | .br b t e =>
    match deadT e with
    | true => mergeV t
    | false =>
      match deadT t with
      | true => mergeV e
      | false => match mergeV t, mergeV e with | some x, some y => zipA b x y | _, _ => none
  | .bad _ => none
def mergeF (t : Tr AV) : Tr AV :=
  match t with
  | .br _ _ _ => match mergeV t with | some x => (match noBad t with | true => .ret x | false => .br (okT t) (.ret x) (.bad 116)) | none => t
  | _ => t
/-- What temporary d holds at the ends of a tree, as one value. -/
def mergeT (d : Nat) : Tr (Stt × Dec) → Option AV
  | .ret r => r.1.tm[d]?
  | .br b t e =>
    match deadT e with
    | true => mergeT d t
    | false =>
      match deadT t with
      | true => mergeT d e
      | false => match mergeT d t, mergeT d e with | some x, some y => zipA b x y | _, _ => none
  | .bad _ => none
/-- Operations that leave own memory as it is. -/
def stillOf (ops : Array Oper) (is : List Nat) : Bool := is.all fun i => match ops[i]? with | some o => (!wrOp o.op || calm P On o.op) && (!newOp o.op || calm P On o.op) | none => true
/-- What temporary d holds at the ends of a tree, where it is among those that are kept. -/
def mergedAt (pd : List Nat) (t : Tr (Stt × Dec)) (d : Nat) : AV :=
  match pd.contains d with
  | true => match mergeT d t with | some x => x | none => .junk
  | false => .junk
def mergeTm (pd : List Nat) (t : Tr (Stt × Dec)) : List Nat → List AV → List AV
  | [], tm => tm
  | d :: r, tm => mergeTm pd t r (tm.set d (mergedAt pd t d))
def dstsOf (ops : Array Oper) (is : List Nat) : List Nat := is.filterMap fun i => (ops[i]?).bind (·.dst)
def Dec.drops (dec : Dec) (l : List Nat) : Dec := l.foldl (fun dec d => dec.drop (some d)) dec
def mergeR (pd : List Nat) (ops : Array Oper) (is : List Nat) (st : Stt) (dec : Dec) (t : Tr (Stt × Dec)) : Tr (Stt × Dec) :=
  match t with
  | .br _ _ _ =>
    match stillOf P On ops is, deadT t with
    | true, false =>
      (match noBad t with
      | true => .ret (⟨mergeTm pd t (dstsOf ops is) st.tm, st.own, st.nx⟩, dec.drops (dstsOf ops is))
      | false => .br (okT t) (.ret (⟨mergeTm pd t (dstsOf ops is) st.tm, st.own, st.nx⟩, dec.drops (dstsOf ops is))) (.bad 117))
    | _, _ => t
  | _ => t
/-- The temporaries that picks write. -/
def pickDsts (ops : Array Oper) (is : List Nat) : List Nat := is.filterMap fun i => match ops[i]? with | some o => (match isPick o.op with | true => o.dst | false => none) | none => none
/-- These temporaries are written by picks alone. -/
def picksOnly (pd : List Nat) (ops : Array Oper) (i : Nat) : Bool :=
  match ops[i]? with
  | some o => isPick o.op || (match o.dst with | some d => !pd.contains d | none => true)
  | none => true
/-- The operations up to the one that picks by temporary d. -/
def spanPick (ops : Array Oper) (d : Nat) : List Nat → Option (List Nat × List Nat)
  | [] => none
  | i :: r =>
    match (match ops[i]? with | some o => (match o.op with | .pick (.tmp e) _ _ => e == d | _ => false) | none => false) with
    | true => some ([i], r)
    | false => match spanPick ops d r with | some (a, b) => some (i :: a, b) | none => none
/-- The temporary on whose test, not known and not met yet, an operation depends. -/
def openTest (ops : Array Oper) (i : Nat) (st : Stt) (dec : Dec) : Option Nat :=
  match ops[i]? with
  | none => none
  | some o =>
    match (match o.guard with
      | some (j, _) => (ops[j]?).bind (·.dst)
      | none => match o.op with | .pick (.tmp e) _ _ => some e | _ => none) with
    | none => none
    | some d =>
      match dec.look d, st.tm[d]? with
      | none, some (.one (.v false (.bool _))) => some d
      | _, _ => none
/-- A region's operations, merged behind each pick. -/
def segD (kf : Md) (ops : Array Oper) : Nat → List Nat → Stt → Dec → Tr (Stt × Dec)
  | 0, is, st, dec => foldD P call icall On kf ops is st dec
  | _ + 1, [], st, dec => .ret (st, dec)
  | n + 1, i :: r, st, dec =>
    match (match openTest ops i st dec with | some d => spanPick ops d (i :: r) | none => none) with
    | some (seg, rest) =>
      match seg.all (picksOnly (pickDsts ops seg) ops) with
      | true => (mergeR P On (pickDsts ops seg) ops seg st dec (foldD P call icall On kf ops seg st dec)).bind fun q => segD kf ops n rest q.1 q.2
      | false => (stepD P call icall On kf ops i st dec).bind fun q => segD kf ops n r q.1 q.2
    | none => (stepD P call icall On kf ops i st dec).bind fun q => segD kf ops n r q.1 q.2
def AV.known (x : AV) : Bool := x.cvs.all CV.known
def allKnown (st : Stt) : Bool := st.tm.all AV.known && st.own.all fun q => match q.2 with | .cells l => l.all CV.known | .row _ kl kn _ _ _ => kl && kn | .dead => true
/-- The operations in an order of their own: what an operation wants comes right before it. -/
def depsOf (ops : Array Oper) (i : Nat) : List Nat := match ops[i]? with | some o => (o.after.toList.filter fun e => Region.binds .any e).map (·.on) | none => []
def visit (ops : Array Oper) : Nat → List Nat → List Nat → List Nat
  | 0, _, acc => acc
  | _ + 1, [], acc => acc
  | n + 1, i :: r, acc =>
    match acc.contains i with
    | true => visit ops n r acc
    | false =>
      match (depsOf ops i).filter (fun j => !acc.contains j) with
      | [] => visit ops n r (i :: acc)
      | d :: ds => visit ops n (d :: (ds ++ i :: r)) acc
def sinksOf (ops : Array Oper) : List Nat := (List.range ops.size).filter fun i => (List.range ops.size).all fun j => !(depsOf ops j).contains i
def ordOf (ops : Array Oper) : List Nat := (visit ops (ops.size * 50 + 100) (sinksOf ops ++ List.range ops.size) []).reverse
def insN (a : Nat) : List Nat → List Nat
  | [] => [a]
  | b :: r => match Nat.ble a b with | true => a :: b :: r | false => b :: insN a r
def isortN : List Nat → List Nat
  | [] => []
  | a :: r => insN a (isortN r)
def invOk (kf : Md) (ops : Array Oper) : List Nat → Bool
  | [] => true
  | i :: r => (r.all fun j => Nat.blt i j || (indep kf ops i j && !Nat.beq i j)) && invOk kf ops r
def permOk (kf : Md) (ops : Array Oper) (is : List Nat) : Bool := (isortN is == List.range ops.size) && invOk kf ops is
def orderFor (kf : Md) (ops : Array Oper) (is : List Nat) : List Nat :=
  match kf.kf with
  | .seq => List.range ops.size
  | _ => match permOk kf ops is with | true => is | false => List.range ops.size
def regionT (kf : Md) (ops : Array Oper) (st : Stt) (dec : Dec) : Tr (Stt × Dec) :=
  match kf.fg with
  | false => mergeR P On (dstsOf ops (List.range ops.size)) ops (List.range ops.size) st dec (foldD P call icall On kf ops (List.range ops.size) st dec)
  | true => segD P call icall On kf ops ops.size (orderFor kf ops (ordOf ops)) st dec
def hasCall (ops : Array Oper) : Bool := ops.toList.any fun o => match o.op with | .call cl => (match cl.callee with | .value _ => true | _ => false) | _ => false
def modeOf (ops : Array Oper) (draw : Bool) (st : Stt) : Option Md :=
  match draw with
  | false => some ⟨.seq, !allKnown st⟩
  | true =>
    match drawOk ⟨.syn, false⟩ ops && !(hasCall ops) with
    | true => some ⟨.syn, !allKnown st⟩
    | false => match drawOk ⟨.gs false (guessKeys P call icall On ops st), false⟩ ops with
      | true => some ⟨.gs false (guessKeys P call icall On ops st), !allKnown st⟩
      | false => match drawOk ⟨.gs true (guessKeys P call icall On ops st), false⟩ ops with
        | true => some ⟨.gs true (guessKeys P call icall On ops st), !allKnown st⟩
        | false => none
/-- What is known of loops: by their places in the text. -/
abbrev Loops := List Nat → Stt → Option (Tr (Ex × Stt))
def evalC (L : Loops) : Nat → List Nat → Code → Stt → Dec → Tr (Ex × Stt × Dec)
  | 0, _, _, _, _ => .bad 101
  | n + 1, at_, c, st, dec =>
    match c with
    | .skip => .ret (.normal, st, dec)
    | .label _ => .ret (.normal, st, dec)
    | .ret => .ret (.ret, st, dec)
    | .exit id => .ret (.exit id, st, dec)
    | .seq a b => (evalC L n (0 :: at_) a st dec).bind fun r =>
      match r.1 with
      | .normal => evalC L n (1 :: at_) b r.2.1 r.2.2
      | e => .ret (e, r.2)
    | .cond (.tmp d) a b =>
      match st.tm[d]? with
      | some (.one (.v kn (.bool t))) => test dec d kn t fun c dec => match c with | true => evalC L n (0 :: at_) a st dec | false => evalC L n (1 :: at_) b st dec
      | _ => .bad 102
    | .cond (.const (.bool t)) a b => match t with | true => evalC L n (0 :: at_) a st dec | false => evalC L n (1 :: at_) b st dec
    | .block id b => (evalC L n (0 :: at_) b st dec).bind fun r =>
      match r.1 with
      | .exit id' => match decide (id' = id) with | true => .ret (.normal, r.2) | false => .ret (.exit id', r.2)
      | e => .ret (e, r.2)
    | .loop b =>
      match L at_ st with
      | some t => t.bind fun r => .ret (r.1, r.2, [])
      | none => (evalC L n (0 :: at_) b st dec).bind fun r =>
        match r.1 with
        | .normal => evalC L n at_ (.loop b) r.2.1 r.2.2
        | e => .ret (e, r.2)
    | .region id ops draw =>
      match modeOf P call icall On ops draw st with
      | some kf => (regionT P call icall On kf ops st dec).bind fun s => .ret (.normal, ⟨s.1.tm, s.1.own, s.1.nx + ops.size⟩, s.2)
      | none => .bad (103 + 1000 * id)
    | _ => .bad 104
def resAVs (st : Stt) : List ResultVar → Option (List AV)
  | [] => some []
  | .tmp t :: r => match resAVs st r with | some l => some (opd st.tm (.tmp t) :: l) | none => none
  | .cell t ty :: r =>
    match opd st.tm (.tmp t) with
    | .one (.p k off) =>
      match st.own.look k, aggSize P ty, resAVs st r with
      | some (.cells cs), some (true, n), some l => match decide (((cs.drop off).take n).length = n) with | true => some (.ag ((cs.drop off).take n) :: l) | false => none
      | some (.cells cs), some (false, _), some l => match cs[off]? with | some x => some (.one x :: l) | none => none
      | _, _, _ => none
    | _ => none
/-- Empty slices written out are data. -/
def Ty.norm : Ty → List CV → List CV × List CV
  | .list t, .v kn (.slice none 0 0) :: r => ([.d kn kn t []], r)
  | .prod a b, cs => match a.norm cs with | (x, r) => match b.norm r with | (y, r') => (x ++ y, r')
  | _, c :: r => ([c], r)
  | _, [] => ([], [])
def normA (t : TypeId) (x : AV) : AV :=
  match tyOf P 8 t, x with
  | some ty, .one c => match ty.norm [c] with | ([c'], []) => .one c' | _ => x
  | some ty, .ag l => match ty.norm l with | (l', []) => .ag l' | _ => x
  | _, _ => x
def normAll : List TypeId → List AV → List AV
  | t :: ts, x :: xs => normA P t x :: normAll ts xs
  | _, xs => xs
def asPart : AV → Option (Bool × List CV)
  | .one c => some (false, [c])
  | .ag l => some (true, l)
  | .tup _ => none
def asParts : List AV → Option (List (Bool × List CV))
  | [] => some []
  | x :: r => match asPart x, asParts r with | some p, some l => some (p :: l) | _, _ => none
def answer (fn : Func) (st : Stt) : Tr AV :=
  match resAVs P st fn.results.toList with
  | some ts =>
    match lendAll st.own.look ts with
    | some us =>
      match normAll P fn.resultTypes.toList us with
      | [x] => .ret x
      | l => match asParts l with | some ps => .ret (.tup ps) | none => .bad 105
    | none => .bad 106
  | none => .bad 118
/-- What a call that was given own memory hands back. -/
def answerO (fn : Func) (st : Stt) : Tr AV :=
  match resAVs P st fn.results.toList with
  | some [x] => .ret x
  | some l => match asParts l with | some ps => .ret (.tup ps) | none => .bad 127
  | none => .bad 128
/-- Blocks that were there before, if nothing leads to others. -/
def trimOwn (old own : Own) (x : AV) : Own :=
  match x.keys.all (has old) && (own.filter fun q => has old q.1).all fun q => q.2.keys.all (has old) with
  | true => own.filter fun q => has old q.1
  | false => own
abbrev Sums := FuncId → List AV → Option (Tr AV)
end
/-- Functions by their summaries, else by their bodies: without own memory of the caller's, and with it. -/
def evalB (P : Program) (S : Sums) (On : FuncId → Bool) (L : FuncId → Loops) : Nat → CallT × ICallT
  | 0 => (fun _ _ => .bad 107, fun _ _ _ _ => .bad 107)
  | d + 1 =>
    (fun f args0 =>
      match P.funcs[f]? with
      | some fn =>
        match S f (normAll P fn.params.toList args0) with
        | some t => t
        | none =>
        match fn.body with
        | some body =>
          mergeF ((evalC P (evalB P S On L d).1 (evalB P S On L d).2 On (L f) 100000 [] body ⟨normAll P fn.params.toList args0 ++ List.replicate (fn.ntmps - args0.length) undefA, [], 0⟩ []).bind fun r =>
            match r.1 with
            | .exit _ => .bad 108
            | _ => answer P fn r.2.1)
        | none => .bad 109
      | none => .bad 110,
    fun f args0 own nx =>
      match L f [7] ⟨args0, own, nx⟩ with
      | some t => t.bind fun r => .ret (r.2.tm.headD (.tup []), r.2.own)
      | none =>
      match P.funcs[f]? with
      | some fn =>
        match fn.body with
        | some body =>
          (evalC P (evalB P S On L d).1 (evalB P S On L d).2 On (L f) 100000 [] body ⟨args0 ++ List.replicate (fn.ntmps - args0.length) undefA, own, nx⟩ []).bind fun r =>
            match r.1 with
            | .exit _ => .bad 108
            | _ => (answerO P fn r.2.1).bind fun x => .ret (x, trimOwn own r.2.1.own x)
        | none => .bad 109
      | none => .bad 110)
def evalF (P : Program) (S : Sums) (On : FuncId → Bool) (L : FuncId → Loops) (d : Nat) : CallT := (evalB P S On L d).1
def opens (l : List FuncId) (f : FuncId) : Bool := l.contains f
def S0 : Sums := fun _ _ => none
def L0 : FuncId → Loops := fun _ _ _ => none
end Go.Proofs.Ytacgchandefjgaa
