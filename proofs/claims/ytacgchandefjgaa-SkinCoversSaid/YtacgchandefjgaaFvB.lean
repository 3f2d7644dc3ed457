/-
  The evaluator: one operation. No program is named here.
-/
import Derived.Test.YtacgchandefjgaaFvA
namespace Go.Proofs.Ytacgchandefjgaa
open Go
section
variable (P : Program) (call : CallT) (lk : Nat → Option OB) (key : Nat) (o : Oper) (ev : Operand → AV)
abbrev OpR := Tr (AV × List (Nat × OB))
def undefA : AV := .one (.v true undef)
/-- Cells of a block, read as a value. -/
def loadCs (ag : Bool) (n off : Nat) (cs : List CV) : OpR :=
  match ag with
  | true => match decide (((cs.drop off).take n).length = n) with | true => .ret (.ag ((cs.drop off).take n), []) | false => .bad 7
  | false => match cs[off]? with | some x => .ret (.one x, []) | none => .bad 9
def opLoad (t : TypeId) (a : AV) : OpR :=
  match aggSize P t with
  | none => .bad 10
  | some (ag, n) =>
    match a with
    | .one (.p k off) => match lk k with | some (.cells cs) => loadCs ag n off cs | _ => .bad 11
    | .one (.e kn ty x off) => loadCs ag n off (ty.cells kn x)
    | .one (.ap kn k i m off) =>
      match lk k with
      | some (.row _ kl kn' _ ty l) =>
        match decide (m = ty.size) with
        | true => Tr.ite (kn && kl) (decide (i < l.length)) (loadCs ag n off (ty.cells (kn && kn') (l.getD i ty.dflt))) (.bad 12)
        | false => .bad 129
      | _ => .bad 13
    | _ => .bad 14
def opStore (t : TypeId) (a x : AV) : OpR :=
  match P.info? t, asCells x with
  | some inf, some xs =>
    match a with
    | .one (.p k off) =>
      match lk k with
      | some (.cells cs) =>
        match decide (inf.size = xs.length) && decide (off + xs.length ≤ cs.length) with
        | true => .ret (undefA, [(k, .cells (splice cs off xs))])
        | false => .bad 15
      | _ => .bad 16
    | .one (.ap kn k i m off) =>
      match lk k, lendL lk xs with
      | some (.row true kl kn' e ty l), some ys =>
        Tr.ite (kn && kl) (decide (i < l.length))
          (match decide (inf.size = ys.length) && decide (off + ys.length ≤ ty.size) && decide (m = ty.size) && !(x.keys.contains k) with
          | true =>
            match ty.take1 (splice (ty.cells (kn && kn') (l.getD i ty.dflt)) off ys) with
            | some (kk, y) => .ret (undefA, freezeL lk x.keys ++ [(k, .row true kl (kn' && kn && kk) e ty (l.set i y))])
            | none => .bad 17
          | false => .bad 18) (.bad 19)
      | _, _ => .bad 20
    | _ => .bad 21
  | _, _ => .bad 22
def opField (s : TypeId) (x : AV) (f : Nat) : OpR :=
  match P.underlying s with
  | some (.struct fs) =>
    match fs[f]? with
    | some fd =>
      match (P.info? fd.type).map (·.size) with
      | some (_ + 1) =>
        match x with
        | .one (.p k off) => .ret (.one (.p k (off + fd.offset)), [])
        | .one (.e kn t y off) => .ret (.one (.e kn t y (off + fd.offset)), [])
        | .one (.ap kn k i m off) => .ret (.one (.ap kn k i m (off + fd.offset)), [])
        | _ => .bad 23
      | _ => .bad 24
    | none => .bad 25
  | _ => .bad 26
def opIndexAddr (t : TypeId) (x ix : AV) : OpR :=
  match ix with
  | .one (.v ki (.int _ i)) =>
    match P.underlying t with
    | some (.array n e) =>
      match P.info? e with
      | some inf =>
        match x with
        | .one (.p k off) => pickAt ki i (fun j => .ret (.one (.p k (off + j * inf.size)), [])) 0 n
        | .one (.e kn ty y off) => pickAt ki i (fun j => .ret (.one (.e kn ty y (off + j * inf.size)), [])) 0 n
        | .one (.ap kn k r m off) => pickAt ki i (fun j => .ret (.one (.ap kn k r m (off + j * inf.size)), [])) 0 n
        | _ => .bad 27
      | none => .bad 28
    | some (.slice e) =>
      match (P.info? e).map (·.size) with
      | some m =>
        match x with
        | .one (.d kl kn ty l) =>
          match decide (m = ty.size) with
          | true => Tr.ite (ki && kl) (decide (0 ≤ i) && decide (i < l.length)) (.ret (.one (.e (kn && ki) ty (l.getD i.toNat ty.dflt) 0), [])) (.bad 29)
          | false => .bad 30
        | .one (.s kn k r n) =>
          match lk k with
          | some (.row _ kl _ _ ty l) =>
            match decide (m = ty.size) with
            | true => Tr.ite (ki && kl && kn) (decide (0 ≤ i) && decide (i < cutLen l r n)) (.ret (.one (.ap (kn && ki) k (match r with | 0 => i.toNat | r + 1 => r + 1 + i.toNat) m 0), [])) (.bad 31)
            | false => .bad 32
          | some (.cells _) =>
            match n with
            | some c => pickAt ki i (fun j => .ret (.one (.p k (r + j * m)), [])) 0 c
            | none => .bad 33
          | _ => .bad 33
        | _ => .bad 34
      | none => .bad 35
    | _ => .bad 36
  | _ => .bad 37
def opIndex (t : TypeId) (x ix : AV) : OpR :=
  match ix with
  | .one (.v ki (.int _ i)) =>
    match P.underlying t, x with
    | some .string, .one (.v kn (.string s)) => Tr.ite (ki && kn) (decide (0 ≤ i) && decide (i < s.size)) (.ret (.one (.v (ki && kn) (.int .u8 (s.get! i.toNat).toNat)), [])) (.bad 38)
    | some (.array n e), .ag cs =>
      match aggSize P e with
      | some (ag, m) => pickAt ki i (fun j => loadCs ag m (j * m) cs) 0 n
      | none => .bad 39
    | _, _ => .bad 40
  | _ => .bad 41
def opPart (s : TypeId) (x : AV) (f : Nat) : OpR :=
  match P.underlying s, x with
  | some (.struct fs), .ag cs =>
    match fs[f]? with
    | some fd => match aggSize P fd.type with | some (ag, m) => loadCs ag m fd.offset cs | none => .bad 42
    | none => .bad 43
  | _, _ => .bad 44
def opExtract (x : AV) (i : Nat) : OpR :=
  match x with
  | .tup l => match l[i]? with | some (true, cs) => .ret (.ag cs, []) | some (false, [c]) => .ret (.one c, []) | _ => .bad 45
  | _ => .bad 46
/-- The parts of a literal. -/
def partsOf (ev : Operand → AV) : List (Nat × Operand) → Option (List (Nat × List CV))
  | [] => some []
  | q :: r => match asCells (ev q.2), partsOf ev r with | some cs, some l => some ((q.1, cs) :: l) | _, _ => none
def fillC (place : Nat → Option (Nat × Nat)) (cs : List CV) : List (Nat × List CV) → Option (List CV)
  | [] => some cs
  | (i, v) :: r =>
    match place i with
    | none => none
    | some (off, size) => match decide (v.length = size) && decide (off + v.length ≤ cs.length) with | true => fillC place (splice cs off v) r | false => none
def opBuild (t : TypeId) (parts : Array (Nat × Operand)) : OpR :=
  match P.info? t, partsOf ev parts.toList with
  | some it, some ps =>
    match it.zero, P.underlying t with
    | some z, some (.array _ e) =>
      match P.info? e with
      | some ie => match fillC (fun i => some (i * ie.size, ie.size)) (z.cells.toList.map (CV.ofV true)) ps with | some cs => .ret (.ag cs, []) | none => .bad 47
      | none => .bad 48
    | some z, some (.struct fields) =>
      match fields.toList.mapM (fun f => (P.info? f.type).map fun i => (f.offset, i.size)) with
      | some places => match fillC (places.toArray[·]?) (z.cells.toList.map (CV.ofV true)) ps with | some cs => .ret (.ag cs, []) | none => .bad 49
      | none => .bad 50
    | _, _ => .bad 51
  | _, _ => .bad 52
/-- The elements of a literal, each written, in their order. -/
def elemsOf (lk : Nat → Option OB) (ty : Ty) : Nat → List (Nat × List CV) → Option (Bool × List ty.den)
  | _, [] => some (true, [])
  | i, (j, cs) :: r =>
    match decide (j = i), lendL lk cs with
    | true, some ds =>
      match ty.take1 ds, elemsOf lk ty (i + 1) r with
      | some (k1, x), some (k2, l) => some (k1 && k2, x :: l)
      | _, _ => none
    | _, _ => none
def opSliceLit (t : TypeId) (len : Nat) (parts : Array (Nat × Operand)) : OpR :=
  match P.underlying t, partsOf ev parts.toList with
  | some (.slice e), some ps =>
    match P.info? e, tyOf P 8 e with
    | some ie, some ty =>
      match elemsOf lk ty 0 ps, ie.zero with
      | some (kn, l), some z =>
        match decide (l.length = len) && decide (ie.size = ty.size) && decide (z.cells.size = ty.size) && decide (len * ie.size ≤ 2 ^ 24) && ps.all (fun q => decide (q.2.length = ty.size)) with
        | true => .ret (.one (.s true key 0 none), freezeL lk (parts.toList.flatMap fun q => (ev q.2).keys) ++ [(key, .row true true kn e ty l)])
        | false => .bad 53
      | _, _ => .bad 54
    | _, _ => .bad 55
  | _, _ => .bad 56
def opMake (t : TypeId) (a b : AV) : OpR :=
  match a, b, P.underlying t with
  | .one (.v k1 (.int _ n)), .one (.v k2 (.int _ c)), some (.slice e) =>
    match P.info? e, tyOf P 8 e with
    | some ie, some ty =>
      match ie.zero with
      | some z =>
        match ty.take1 (z.cells.toList.map (CV.ofV true)), decide (ie.size = ty.size) && decide (z.cells.size = ty.size) with
        | some (_, x), true =>
          Tr.ite (k1 && k2) (decide (0 ≤ n) && decide (n ≤ c) && decide ((ie.bytes : Int) * c ≤ 281474976710656) && decide (c ≤ 9223372036854775807))
            (.ret (.one (.s true key 0 none), [(key, .row true k1 k1 e ty (List.replicate n.toNat x))])) (.bad 57)
        | _, _ => .bad 58
      | none => .bad 59
    | _, _ => .bad 60
  | _, _, _ => .bad 61
def cutD {α : Type} (l : List α) (lo hi : Option Operand) (a b : Int) : List α :=
  match lo, hi with
  | none, none => l
  | none, some _ => l.take b.toNat
  | some _, none => l.drop a.toNat
  | some _, some _ => (l.take b.toNat).drop a.toNat
def newLo (lo : Option Operand) (r : Nat) (a : Int) : Nat := match lo with | none => r | some _ => r + a.toNat
def newHi (hi : Option Operand) (n : Option Nat) (a b : Int) : Option Nat := match hi, n with | none, none => none | _, _ => some (b - a).toNat
/-- The elements' kind of a slice. -/
def elTy (t : TypeId) (x : AV) : Option (TypeId × Ty) :=
  match P.underlying t, x with
  | some (.slice e), .one (.d _ _ ty _) => some (e, ty)
  | some (.slice e), .one (.s _ k _ _) => match lk k with | some (.row _ _ _ _ ty _) => some (e, ty) | _ => none
  | some (.slice e), .one (.v _ (.slice none 0 0)) => (tyOf P 8 e).map fun ty => (e, ty)
  | _, _ => none
def isZero (x : AV) : Bool := match x with | .one (.v true (.int _ n)) => decide (n = 0) | _ => false
def hiZ (hi : Option Operand) : Bool := match hi with | some h => isZero (ev h) | none => false
def opSlice (t : TypeId) (x : AV) (lo hi mx : Option Operand) : OpR :=
  match mx with
  | some m =>
    match lo, hi, elTy P lk t x with
    | none, some h, some (e, ty) => (match isZero (ev h) && isZero (ev m) && decide ((P.info? e).map (·.size) = some ty.size) with
      | true => .ret (.one (.s true key 0 none), [(key, .row true true true e ty [])])
      | false => .bad 62)
    | some l, some h, some (e, ty) => (match x, ev l, ev h, ev m, decide ((P.info? e).map (·.size) = some ty.size) with
      | .one (.s kn k r n), .one (.v k1 (.int _ a)), .one (.v k2 (.int _ b)), .one (.v k3 (.int _ c)), true =>
        (match lk k with
        | some (.row _ kl _ _ _ lst) => Tr.ite (k1 && k2 && k3 && kl && kn) (decide (0 ≤ a) && decide (a ≤ b) && decide (b ≤ c) && decide (c ≤ cutLen lst r n)) (.ret (.one .junk, [])) (.bad 62)
        | _ => .bad 62)
      | _, _, _, _, _ => .bad 62)
    | _, _, _ => .bad 62
  | none =>
    match P.underlying t, x with
    | some .string, .one (.v kn (.string s)) =>
      match loOf ev lo, hiOf ev s.size kn hi with
      | some (k1, a), some (k2, b) => Tr.ite (k1 && k2 && kn) (decide (0 ≤ a) && decide (a ≤ b) && decide (b ≤ s.size)) (.ret (.one (.v (k1 && k2 && kn) (.string (s.extract a.toNat b.toNat))), [])) (.bad 63)
      | _, _ => .bad 64
    | some (.slice e), .one (.d kl kn ty l) =>
      match loOf ev lo, hiOf ev l.length kl hi, decide ((P.info? e).map (·.size) = some ty.size) with
      | some (k1, a), some (k2, b), true => Tr.ite (k1 && k2 && kl) (decide (0 ≤ a) && decide (a ≤ b) && decide (b ≤ l.length)) (.ret (.one (.d (k1 && k2 && kl) kn ty (cutD l lo hi a b)), [])) (.bad 65)
      | _, _, _ => .bad 66
    | some (.slice e), .one (.s kn k r n) =>
      match lk k with
      | some (.row _ kl _ _ ty l) =>
        match loOf ev lo, hiOf ev (cutLen l r n) (kl && kn) hi, decide ((P.info? e).map (·.size) = some ty.size) with
        | some (k1, a), some (k2, b), true =>
          Tr.ite (k1 && k2 && kl && kn) (decide (0 ≤ a) && decide (a ≤ b) && decide (b ≤ cutLen l r n))
            (.ret (.one (.s (k1 && k2 && kn) k (newLo lo r a) (newHi hi n a b)), [])) (.bad 67)
        | _, _, _ => .bad 68
      | _ => .bad 69
    | some (.slice e), .one (.v kn (.slice none 0 0)) =>
      match lo, hiZ ev hi, P.info? e with
      | none, true, some _ => .ret (.one (.v kn (.slice none 0 0)), [])
      | _, _, _ => .bad 70
    | some (.array n e), .one (.p k off) =>
      match lo, hi, lk k, (P.info? e).map (·.size) with
      | none, none, some (.cells _), some _ => (match Nat.ble 1 n && Nat.ble n 100000 with | true => .ret (.one (.s true k off (some n)), []) | false => .bad 70)
      | _, _, _, _ => .bad 70
    | _, _ => .bad 70
/-- A slice's elements, as far as they are to be read. -/
def takeN (ty : Ty) : Nat → List CV → Option (Bool × List ty.den)
  | 0, _ => some (true, [])
  | n + 1, cs =>
    match ty.take cs with
    | some (k1, x, r) => (match takeN ty n r with | some (k2, l) => some (k1 && k2, x :: l) | none => none)
    | none => none
def srcOf (x : AV) (ty : Ty) : Option (Bool × Bool × List ty.den) :=
  match x with
  | .one (.d kl kn t l) => if h : t = ty then some (kl, kn, h ▸ l) else none
  | .one (.s kn k i n) =>
    match lk k with
    | some (.row _ kl kn' _ t l) => if h : t = ty then some (kl && kn, kn', h ▸ cut l i n) else none
    | some (.cells cs) =>
      (match n with
      | some m => (match takeN ty m (cs.drop i) with | some (k2, l) => some (kn, k2, l) | none => none)
      | none => none)
    | _ => none
  | .one (.v kn (.slice none 0 0)) => some (kn, kn, [])
  | _ => none
def opAppend (t1 t2 : TypeId) (x y : AV) : OpR :=
  match decide (t1 = t2), P.underlying t1 with
  | true, some (.slice e) =>
    match P.info? e with
    | some ie =>
      match ie.zero with
      | some z =>
        match x with
        | .one (.s kn k i n) =>
          match i, lk k with
          | 0, some (.row true kl kn' e' ty l) =>
            match srcOf lk y ty, decide (e' = e) && decide (ie.size = ty.size) && decide (z.cells.size = ty.size) && decide (0 < ty.size) with
            | some (ks, ke, ys), true =>
              Tr.ite (kn && kl && ks) (decide ((cutLen l 0 n + ys.length) * ie.bytes ≤ maxNew) && decide (cutLen l 0 n + ys.length ≤ maxLen))
                (.ret (.one (.s true key 0 none), [(k, .dead), (key, .row true (kl && kn && ks) (kn' && ke) e ty (cut l 0 n ++ ys))])) (.bad 71)
            | _, _ => .bad 72
          | _, _ => .bad 73
        | .one (.v _ (.slice none 0 0)) =>
          match tyOf P 8 e with
          | some ty =>
            match srcOf lk y ty, decide (ie.size = ty.size) && decide (z.cells.size = ty.size) && decide (0 < ty.size) with
            | some (ks, ke, ys), true =>
              Tr.ite ks (decide (ys.length * ie.bytes ≤ maxNew) && decide (ys.length ≤ maxLen)) (.ret (.one (.s true key 0 none), [(key, .row true ks ke e ty ys)])) (.bad 74)
            | _, _ => .bad 75
          | none => .bad 76
        | _ => .bad 77
      | none => .bad 78
    | none => .bad 79
  | _, _ => .bad 80
/-- append(nil, make([]T, n)...): some zero values. -/
def opAppZ (t1 t2 : TypeId) (x y : AV) : OpR :=
  match x, y with
  | .one (.v _ (.slice none 0 0)), .one (.v k (.int .i64 n)) =>
    match P.underlying t1, P.underlying t2 with
    | some (.slice e), some (.int _) =>
      match P.info? e, tyOf P 8 e with
      | some ie, some ty =>
        match ie.zero with
        | some z =>
          match ty.take1 (z.cells.toList.map (CV.ofV true)), decide (ie.size = ty.size) && decide (z.cells.size = ty.size) with
          | some (_, x0), true =>
            Tr.ite k (decide (1 ≤ n) && decide (n * ie.bytes ≤ 281474976710656) && decide (n ≤ 281474976710656))
              (.ret (.one (.s true key 0 none), [(key, .row true k k e ty (List.replicate n.toNat x0))])) (.bad 131)
          | _, _ => .bad 132
        | none => .bad 133
      | _, _ => .bad 134
    | _, _ => .bad 135
  | _, _ => .bad 80
def opCopy (t1 t2 : TypeId) (x y : AV) : OpR :=
  match decide (t1 = t2), P.underlying t1, x with
  | true, some (.slice e), .one (.s kn k i n) =>
    match P.info? e, lk k with
    | some ie, some (.row true kl kn' e' ty l) =>
      match srcOf lk y ty, decide (ie.size = ty.size) with
      | some (ks, ke, ys), true =>
        .ret (.one (.v (kn && kl && ks) (.int .i64 (min ys.length (cutLen l i n) : Nat))), [(k, .row true kl (kn' && ke) e' ty (splice l i (ys.take (min ys.length (cutLen l i n)))))])
      | _, _ => .bad 122
    | _, _ => .bad 123
  | _, _, _ => .bad 124
/-- clear(s), of an own row. -/
def opClear (t : TypeId) (x : AV) : OpR :=
  match P.underlying t, x with
  | some (.slice e), .one (.s _ k i n) =>
    match P.info? e, lk k with
    | some ie, some (.row true kl kn' e' ty l) =>
      match ie.zero with
      | some z =>
        match ty.take1 (z.cells.toList.map (CV.ofV true)), decide (z.cells.size = ty.size) with
        | some (_, z0), true => .ret (.tup [], [(k, .row true kl kn' e' ty (splice l i (List.replicate (cutLen l i n) z0)))])
        | _, _ => .bad 151
      | none => .bad 152
    | _, _ => .bad 153
  | _, _ => .bad 154
/-- The bytes of numbers. -/
def ofInts (l : List Int) : ByteArray := l.foldl (fun r n => r.push (UInt8.ofNat n.toNat)) ByteArray.empty
/-- string(b): of bytes; else as it stands. -/
def opConv (s d : TypeId) (x : AV) : OpR :=
  match P.underlying s, P.underlying d with
  | some (.slice e), some .string =>
    match P.underlying e, srcOf lk x (.int .u8) with
    | some (.int .u8), some (k1, k2, l) => .ret (.one (.v (k1 && k2) (.string (ofInts l))), [])
    | _, _ => .bad 140
  | _, _ => generic P o ev
def opLen (t : TypeId) (x : AV) : OpR :=
  match P.underlying t, x with
  | some (.slice _), .one (.d kl _ _ l) => .ret (.one (.v kl (.int .i64 l.length)), [])
  | some (.slice _), .one (.s kn k i n) =>
    match lk k with
    | some (.row _ kl _ _ _ l) => .ret (.one (.v (kl && kn) (.int .i64 (cutLen l i n))), [])
    | some (.cells _) => (match n with | some m => .ret (.one (.v kn (.int .i64 m)), []) | none => .bad 81)
    | _ => .bad 81
  | some (.array n _), _ => .ret (.one (.v true (.int .i64 n)), [])
  | _, _ => generic P o ev
def opCall (f : AV) (args : List AV) : OpR :=
  match f with
  | .one (.fn n []) =>
    match callable P n, cloneT P n, args with
    | true, some t, [x] => opAppend P lk key t t (.one (.v true (.slice none 0 0))) x
    | true, _, _ =>
      match lendAll lk args with
      | some as => (call n as).bind fun r => .ret (r, match r.flat with | true => [] | false => freezeL lk (args.flatMap AV.keys))
      | none => .bad 82
    | _, _, _ => .bad 82
  | _ => .bad 83
/-- A method of a value in an interface, whose type is known. -/
def opInvoke : OpR :=
  match (o.op.operands.toList.map ev).all AV.isRaw with
  | false => .bad 143
  | true =>
    match pureRun P (execOp (fun x => rawOr (ev x)) o) with
    | some (.enter f vs) => (call f (vs.toList.map (AV.ofVal ((o.op.operands.toList.map ev).all knRaw)))).bind fun r => match r.flat with | true => .ret (r, []) | false => .bad 144
    | _ => .bad 145
def opBin (op : BinOp) (t : TypeId) (x y : AV) : OpR :=
  match op, x, y with
  | .quo, .one (.v k1 (.int k a)), .one (.v k2 (.int k' b)) => match decide (k = k') with | true => Tr.ite k2 (b != 0) (.ret (.one (.v (k1 && k2) (.int k (k.wrap (a.tdiv b)))), [])) (.bad 84) | false => .bad 85
  | .rem, .one (.v k1 (.int k a)), .one (.v k2 (.int k' b)) => match decide (k = k') with | true => Tr.ite k2 (b != 0) (.ret (.one (.v (k1 && k2) (.int k (a.tmod b))), [])) (.bad 86) | false => .bad 87
  | .shl, .one (.v k1 (.int k a)), .one (.v k2 (.int _ b)) => Tr.ite k2 (decide (0 ≤ b)) (.ret (.one (.v (k1 && k2) (.int k (k.wrap (a * 2 ^ (min b.toNat k.bits))))), [])) (.bad 88)
  | .shr, .one (.v k1 (.int k a)), .one (.v k2 (.int _ b)) => Tr.ite k2 (decide (0 ≤ b)) (.ret (.one (.v (k1 && k2) (.int k (a.fdiv (2 ^ (min b.toNat k.bits))))), [])) (.bad 89)
  | .eql, .one (.d true _ _ (_ :: _)), .one (.v true (.slice none 0 0)) => opNe true
  | .neq, .one (.d true _ _ (_ :: _)), .one (.v true (.slice none 0 0)) => opNe false
  | .eql, .one (.v true (.slice none 0 0)), .one (.v true (.slice none 0 0)) => opNe false
  | .eql, x, y => opEq true x y
  | .neq, x, y => opEq false x y
  | .add, .one (.v k1 (.string a)), .one (.v k2 (.string b)) => Tr.ite (k1 && k2) (decide (((a.size + b.size : Nat) : Int) ≤ 9223372036854775807)) (.ret (.one (.v (k1 && k2) (.string (a ++ b))), [])) (.bad 90)
  | _, _, _ => generic P o ev
where
 opNe (pos : Bool) : OpR :=
  match P.underlying t with
  | some (.slice _) => .ret (.one (.v true (.bool (!pos))), [])
  | _ => .bad 94
 opEq (pos : Bool) (x y : AV) : OpR :=
  match rawA x, rawA y with
  | some (k1, .agg xs), some (k2, .agg ys) => match P.eqGuardType P.depth t, eqB P 8 t (.agg xs) (.agg ys) with | false, some b => .ret (.one (.v (k1 && k2) (.bool (match pos with | true => b | false => !b))), []) | _, _ => .bad 91
  | some (k1, .bool a), some (k2, .bool b) => match eqB P 8 t (.bool a) (.bool b) with | some r => .ret (.one (.v (k1 && k2) (.bool (match pos with | true => r | false => !r))), []) | _ => .bad 92
  | some (_, .slice ..), _ => .bad 93
  | _, some (_, .slice ..) => .bad 94
  | some _, some _ => generic P o ev
  | _, _ => .bad 95
def opF : OpR :=
  match o.op with
  | .alloc elem =>
    match (P.info? elem).bind (·.zero) with
    | some z => .ret (.one (.p key 0), [(key, .cells (z.cells.toList.map (CV.ofV true)))])
    | none => .bad 6
  | .box _ x => match asCells (ev x) with | some cs => .ret (.one (.p key 0), [(key, .cells cs)]) | none => .bad 32
  | .load t a => opLoad P lk t (ev a)
  | .store t a x => opStore P lk t (ev a) (ev x)
  | .fieldAddr s x f => opField P s (ev x) f
  | .indexAddr t x ix => opIndexAddr P lk t (ev x) (ev ix)
  | .index t x ix => opIndex P t (ev x) (ev ix)
  | .field s x f => opPart P s (ev x) f
  | .extract x i => opExtract (ev x) i
  | .build t parts => opBuild P ev t parts
  | .buildSlice t len parts => opSliceLit P lk key ev t len parts
  | .makeSlice t a b => opMake P key t (ev a) (ev b)
  | .slice t x lo hi mx => opSlice P lk key ev t (ev x) lo hi mx
  | .nilCheck x =>
    match ev x with
    | .one (.p k off) => .ret (.one (.p k off), [])
    | .one (.e kn t y off) => .ret (.one (.e kn t y off), [])
    | .one (.ap kn k i m off) => .ret (.one (.ap kn k i m off), [])
    | .one (.fn f caps) => .ret (.one (.fn f caps), [])
    | _ => generic P o ev
  | .makeFunc fn first caps =>
    match fn, first.toList, ptrAll (caps.toList.map ev) with
    | .func f, [], some l => .ret (.one (.fn f l), [])
    | .func _, _ :: _, some [] => generic P o ev
    | _, _, _ => .bad 96
  | .call cl =>
    match cl.callee with
    | .value f => (match ev f with | .one (.v _ _) => opInvoke P call o ev | y => opCall P call lk key y (cl.args.toList.map ev))
    | .builtin b =>
      match b, cl.argTypes.toList, cl.args.toList with
      | .append, [t1, t2], [x, y] => (match decide (t1 = t2) with | true => opAppend P lk key t1 t2 (ev x) (ev y) | false => opAppZ P key t1 t2 (ev x) (ev y))
      | .len, [t], [x] => opLen P lk o ev t (ev x)
      | .append, _, _ => .bad 97
      | .copy, [t1, t2], [x, y] => opCopy P lk t1 t2 (ev x) (ev y)
      | .copy, _, _ => .bad 98
      | .clear, [t], [x] => opClear P lk t (ev x)
      | .clear, _, _ => .bad 155
      | .len, _, _ => .bad 99
      | _, _, _ => generic P o ev
    | .invoke _ _ => opInvoke P call o ev
  | .binOp op t x y _ => opBin P o ev op t (ev x) (ev y)
  | .unOp .. => generic P o ev
  | .makeInterface .. => generic P o ev
  | .convert s d x => opConv P lk o ev s d (ev x)
  | _ => .bad 31
end
end Go.Proofs.Ytacgchandefjgaa
