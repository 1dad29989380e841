/-
  RxB: operations of the abstract machine, and how they come out of the program's own.
-/
import Derived.Test.YtophpmdlgphihapRxA
namespace Go.Rx
set_option linter.unusedVariables false

/-- the operations of maps: make, look up (of text; with 'ok'; zero), update, delete, range, next, the entry that came -/
inductive MQ where
  | mk
  | lk (x k : MX) (ok st : Bool) (z : AV)
  | up (x k v : MX) (st : Bool)
  | dl (x k : MX) (st : Bool)
  | rg (x : MX)
  | nx (x : MX)
  | en (x : MX)
  deriving Inhabited

inductive MOp where
  | mv (x : MX)
  | pick (c a b : MX)
  | bin (op : BinOp) (x y : MX)
  | beq (neg : Bool) (x y : MX)
  | nileq (neg : Bool) (x y : MX)
  | peq (neg : Bool) (x y : MX)
  | ageq (neg : Bool) (n : Nat) (x y : MX)
  | un (op : UnOp) (x : MX)
  | conv (k : IntKind) (x : MX)
  | len (x : MX)
  | lens (x : MX)
  | ixa (x i : MX) (es : Nat)
  | arra (x i : MX) (n es : Nat)
  | arr (x i : MX) (n es : Nat) (ag : Bool)
  | chr (x i : MX)
  | ld (p : MX) (n : Nat) (ag : Bool)
  | st (p v : MX) (n : Nat)
  | fa (p : MX) (off : Nat)
  | fld (x : MX) (off n : Nat) (ag : Bool)
  | mks (n c : MX) (z : List AV) (es bytes : Nat)
  | bsl (len es : Nat) (z : List AV) (parts : List (Nat × MX))
  | bld (z : List AV) (parts : List (Nat × Nat × MX))
  | box (x : MX)
  | new (z : List AV)
  | sl (x : MX) (lo hi mx : Option MX) (es : Nat)
  | sls (x : MX) (lo hi : Option MX)
  | app (x y : MX) (es bytes : Nat)
  | ext (x : MX) (i : Nat)
  | nilck (x : MX)
  | mnmx (mx : Bool) (x : MX) (ys : List MX)
  | mkf (f : FuncId) (cs : List MX)
  | mkb (f : FuncId) (x : MX)
  | mki (t : TypeId) (x : MX)
  | cap0 (x : MX)
  | app0 (x n : MX) (z : List AV) (es bytes : Nat)
  | cpy (x y : MX) (es : Nat)
  | sla (x : MX) (n es : Nat)
  | die
  | call (f : FuncId) (args : List MX)
  | callv (fv : MX) (args : List MX)
  | inv (tab : List (TypeId × FuncId)) (x : MX) (args : List MX)
  | mkm (name : String) (x : MX)
  | nilckm (x : MX) (tabs : List (String × List TypeId))
  | tas (x : MX) (t : TypeId) (ok : Bool) (z : AV)
  | tai (x : MX) (ts us : List TypeId) (ok : Bool)
  | mq (q : MQ)
  deriving Inhabited

def shifts : BinOp → Bool
  | .shl | .shr => true
  | _ => false

def mshift (op : BinOp) (k : IntKind) (a b : Int) : Option AV :=
  if b < 0 then none else match op with
    | .shl => some (.int k (k.wrap (a * 2 ^ min b.toNat k.bits)))
    | .shr => some (.int k (a.fdiv (2 ^ min b.toNat k.bits)))
    | _ => none

def mbin (op : BinOp) : AV → AV → Option AV
  | .int k a, .int k' b =>
    if shifts op = true then mshift op k a b
    else if k = k' then
      match op with
      | .add => some (.int k (k.wrap (a + b)))
      | .sub => some (.int k (k.wrap (a - b)))
      | .mul => some (.int k (k.wrap (a * b)))
      | .quo => if b = 0 then none else some (.int k (k.wrap (a.tdiv b)))
      | .rem => if b = 0 then none else some (.int k (a.tmod b))
      | .eql => some (.bool (a == b))
      | .neq => some (.bool (a != b))
      | .lss => some (.bool (a < b))
      | .leq => some (.bool (a ≤ b))
      | .gtr => some (.bool (a > b))
      | .geq => some (.bool (a ≥ b))
      | .and => some (.int k (k.wrap (BitVec.ofInt k.bits a &&& BitVec.ofInt k.bits b).toNat))
      | .or => some (.int k (k.wrap (BitVec.ofInt k.bits a ||| BitVec.ofInt k.bits b).toNat))
      | .xor => some (.int k (k.wrap (BitVec.ofInt k.bits a ^^^ BitVec.ofInt k.bits b).toNat))
      | .andNot => some (.int k (k.wrap (BitVec.ofInt k.bits a &&& ~~~(BitVec.ofInt k.bits b)).toNat))
      | _ => none
    else none
  | .str a, .str b =>
    match op with
    | .add => if ((a.length + b.length : Nat) : Int) ≤ 9223372036854775807 then some (.str (a ++ b)) else none
    | .eql => some (.bool (a == b))
    | .neq => some (.bool !(a == b))
    | .lss => some (.bool (Op.bytesLess a b))
    | .leq => some (.bool (Op.bytesLess a b || a == b))
    | .gtr => some (.bool !(Op.bytesLess a b || a == b))
    | .geq => some (.bool !(Op.bytesLess a b))
    | _ => none
  | _, _ => none

def mun (op : UnOp) : AV → Option AV
  | .int k n => match op with
    | .neg => some (.int k (k.wrap (0 - n)))
    | .xor => some (.int k (k.wrap (BitVec.ofInt k.bits (if k.signed = true then -1 else k.max) ^^^ BitVec.ofInt k.bits n).toNat))
    | _ => none
  | .bool b => match op with
    | .not => some (.bool !b)
    | _ => none
  | _ => none

/-- the value of an index or a bound -/
def AV.num : AV → Option Int
  | .int _ n => some n
  | _ => none

/-- cells laid over others -/
def fillL : List AV → List (Nat × Nat × AV) → Option (List AV)
  | cs, [] => some cs
  | cs, (off, n, v) :: r =>
    if v.cells.length = n ∧ off + n ≤ cs.length ∧ v.cells.all AV.one = true then fillL (cs.take off ++ v.cells ++ cs.drop (off + n)) r else none

def zrep (z : List AV) (n : Nat) : List AV := (List.range n).map fun i => z.getD (i % z.length) .any

def packC (ag : Bool) : List AV → Option AV
  | [a] => some (if ag then .agg [a] else a)
  | cs => if ag then some (.agg cs) else none

def bnd (lim : Nat) : Option AV → Nat → Option Nat
  | none, d => some d
  | some (.int _ n), _ => if 0 ≤ n ∧ n ≤ lim then some n.toNat else none
  | some _, _ => none

def msl (v : AV) (lo hi mx : Option AV) (es : Nat) : Option AV :=
  match bnd v.len mx v.len with
  | none => none
  | some m =>
    match bnd m hi v.len with
    | none => none
    | some h =>
      match bnd h lo 0 with
      | none => none
      | some l =>
        match v with
        | .slice id off n cap es' => if es' = es then some (.slice id (off + l * es) (h - l) (if mx.isSome then some (m - l) else cap.map (· - l)) es) else none
        | .nilSlice => some .nilSlice
        | _ => none

def msls (v : AV) (lo hi : Option AV) : Option AV :=
  match v with
  | .str s =>
    match bnd s.length hi s.length with
    | none => none
    | some h =>
      match bnd h lo 0 with
      | none => none
      | some l => some (.str ((s.take h).drop l))
  | _ => none

def mapp (nid : Nat) (H : Heap) (x y : AV) (es bytes : Nat) : Option (AV × Heap) :=
  if y.isSlice = true then
    match H.row y with
    | none => none
    | some news =>
      if news.length = y.len * es ∧ news.all AV.one = true ∧ 0 < es then
        match x with
        | .nilSlice =>
          if y.len = 0 then some (.nilSlice, H)
          else if y.len * bytes ≤ 140737488355328 ∧ y.len ≤ maxLen then some (.slice nid 0 y.len none es, H.new nid (some ⟨true, news⟩)) else none
        | .slice id off n cap es' =>
          if y.len = 0 then some (x, H)
          else if (n + y.len) * bytes ≤ 140737488355328 ∧ n + y.len ≤ maxLen ∧ es' = es then
            match H.get id with
            | none => none
            | some b =>
              if off + n * es ≤ b.cells.length then
                match cap with
                | some c => if c < n + y.len then some (.slice nid 0 (n + y.len) none es, H.new nid (some ⟨true, (b.cells.drop off).take (n * es) ++ news⟩)) else none
                | none => if b.rw = true then some (.slice nid 0 (n + y.len) none es, (H.put id none).new nid (some ⟨true, (b.cells.drop off).take (n * es) ++ news⟩)) else none
              else none
          else none
        | _ => none
      else none
  else none

def mfold (mx : Bool) : AV → List AV → Option AV
  | .int k a, [] => some (.int k a)
  | .int k a, .int k' b :: r => if k = k' then mfold mx (.int k (if mx = true then (if b > a then b else a) else (if b < a then b else a))) r else none
  | _, _ => none

/-- cells that are whole numbers, compared -/
def flatEq : List AV → List AV → Option Bool
  | [], [] => some true
  | .int k a :: r, .int k' b :: r' => if k = k' then (flatEq r r').map ((a == b) && ·) else none
  | _, _ => none
def isIntT (P : Program) (t : TypeId) : Bool :=
  match P.underlying t with
  | some (.int _) => true
  | _ => false

def hasM : List (String × List TypeId) → String → TypeId → Bool
  | [], _, _ => false
  | (n, ts) :: r, m, t => (n == m && ts.contains t) || hasM r m t

/-- one operation without a call: its value, and the heap behind it; 'nid' is the number of a new block -/
def mstep (nid : Nat) (τ : Nat → AV) (H : Heap) : MOp → Option (AV × Heap)
  | .mv x => some (x.ev τ, H)
  | .pick c a b => match c.ev τ with
    | .bool t => some (if t = true then a.ev τ else b.ev τ, H)
    | _ => none
  | .bin op x y => (mbin op (x.ev τ) (y.ev τ)).map (·, H)
  | .beq neg x y => match x.ev τ, y.ev τ with
    | .bool a, .bool b => some (.bool (if neg = true then !(a == b) else a == b), H)
    | _, _ => none
  | .nileq neg x y => match x.ev τ, y.ev τ with
    | .nilSlice, .nilSlice => some (.bool (!neg), H)
    | .slice .., .nilSlice => some (.bool neg, H)
    | .nilSlice, .slice .. => some (.bool neg, H)
    | _, _ => none
  | .peq neg x y => match x.ev τ, y.ev τ with
    | .nilPtr, .nilPtr => some (.bool (!neg), H)
    | .ptr .., .nilPtr => some (.bool neg, H)
    | .nilPtr, .ptr .. => some (.bool neg, H)
    | _, _ => none
  | .ageq neg n x y => match x.ev τ, y.ev τ with
    | .agg cs, .agg ds => if cs.length = n then (flatEq cs ds).map fun b => (.bool (if neg = true then !b else b), H) else none
    | _, _ => none
  | .un op x => (mun op (x.ev τ)).map (·, H)
  | .conv k x => match x.ev τ with
    | .int _ n => some (.int k (k.wrap n), H)
    | _ => none
  | .len x => if (x.ev τ).isSlice = true then some (.int .i64 (x.ev τ).len, H) else none
  | .lens x => match x.ev τ with
    | .str s => some (.int .i64 s.length, H)
    | _ => none
  | .ixa x i es => match i.ev τ with
    | .int _ n => if 0 ≤ n ∧ n < (x.ev τ).len ∧ (x.ev τ).es = some es then some ((x.ev τ).elem n.toNat, H) else none
    | _ => none
  | .arra x i n es => match x.ev τ, i.ev τ with
    | .ptr id off, .int _ k => if 0 ≤ k ∧ k < n then some (.ptr id (off + k.toNat * es), H) else none
    | .gl g off, .int _ k => if 0 ≤ k ∧ k < n then some (.gl g (off + k.toNat * es), H) else none
    | _, _ => none
  | .arr x i n es ag => match x.ev τ, i.ev τ with
    | .agg cs, .int _ k => if 0 ≤ k ∧ k < n ∧ (k.toNat * es) + es ≤ cs.length then (packC ag ((cs.drop (k.toNat * es)).take es)).map (·, H) else none
    | _, _ => none
  | .chr x i => match x.ev τ, i.ev τ with
    | .str s, .int _ k => if 0 ≤ k then (s[k.toNat]?).map fun b => (.int .u8 b.toNat, H) else none
    | _, _ => none
  | .ld p n ag => match H.read (p.ev τ) n with
    | some cs => (packC ag cs).map (·, H)
    | none => none
  | .st p v n => if (v.ev τ).cells.length = n then (H.write (p.ev τ) (v.ev τ).cells).map (AV.any, ·) else none
  | .fa p off => match p.ev τ with
    | .ptr id o => some (.ptr id (o + off), H)
    | .gl g o => some (.gl g (o + off), H)
    | _ => none
  | .fld x off n ag => match x.ev τ with
    | .agg cs => if off + n ≤ cs.length then (packC ag ((cs.drop off).take n)).map (·, H) else none
    | _ => none
  | .mks n c z es bytes => match n.ev τ, c.ev τ with
    | .int .i64 l, .int .i64 m => if 0 ≤ l ∧ l ≤ m ∧ m ≤ 9223372036854775807 ∧ bytes * m ≤ 281474976710656 then some (.slice nid 0 l.toNat none es, H.new nid (some ⟨true, zrep z (l.toNat * es)⟩)) else none
    | _, _ => none
  | .bsl n es z parts => match fillL (zrep z (n * es)) (parts.map fun p => (p.1 * es, es, p.2.ev τ)) with
    | some cs => some (.slice nid 0 n none es, H.new nid (some ⟨true, cs⟩))
    | none => none
  | .bld z parts => (fillL z (parts.map fun p => (p.1, p.2.1, p.2.2.ev τ))).map (AV.agg ·, H)
  | .box x => if (x.ev τ).cells.all AV.one = true then some (.ptr nid 0, H.new nid (some ⟨true, (x.ev τ).cells⟩)) else none
  | .new z => some (.ptr nid 0, H.new nid (some ⟨true, z⟩))
  | .sl x lo hi mx es => (msl (x.ev τ) (lo.map (·.ev τ)) (hi.map (·.ev τ)) (mx.map (·.ev τ)) es).map (·, H)
  | .sls x lo hi => (msls (x.ev τ) (lo.map (·.ev τ)) (hi.map (·.ev τ))).map (·, H)
  | .app x y es bytes => mapp nid H (x.ev τ) (y.ev τ) es bytes
  | .ext x i => match x.ev τ with
    | .tuple vs => (vs[i]?).map (·, H)
    | _ => none
  | .nilck x => match x.ev τ with
    | .ptr id off => some (.ptr id off, H)
    | .func f cs => some (.func f cs, H)
    | .bound f x => some (.bound f x, H)
    | .iface t v => some (.iface t v, H)
    | _ => none
  | .mnmx mx x ys => (mfold mx (x.ev τ) (ys.map (·.ev τ))).map (·, H)
  | .mkf f cs => some (.func f (cs.map (·.ev τ)), H)
  | .mkb f x => some (.bound f (x.ev τ), H)
  | .mki t x => some (.iface t (x.ev τ), H)
  | .cap0 x => match x.ev τ with
    | .nilSlice => some (.int .i64 0, H)
    | _ => none
  | .app0 x n z es bytes => match x.ev τ, n.ev τ with
    | .nilSlice, .int .i64 l => if 0 < l ∧ 0 < es ∧ l.toNat * bytes ≤ 140737488355328 ∧ l.toNat ≤ maxLen then some (.slice nid 0 l.toNat none es, H.new nid (some ⟨true, zrep z (l.toNat * es)⟩)) else none
    | _, _ => none
  | .cpy x y es => if (y.ev τ).isSlice = true then
      match H.row (y.ev τ), x.ev τ with
      | some cs, .slice id off n _ es' => if es' = es ∧ 0 < es ∧ cs.length = (y.ev τ).len * es then
          if min (y.ev τ).len n = 0 then some (.int .i64 0, H)
          else (H.write (.ptr id off) (cs.take (min (y.ev τ).len n * es))).map (AV.int .i64 (min (y.ev τ).len n : Nat), ·)
        else none
      | some _, .nilSlice => some (.int .i64 0, H)
      | _, _ => none
    else none
  | .sla x n es => match x.ev τ with
    | .ptr id off => match H.get id with
      | some b => if b.rw = true ∧ 0 < es ∧ n ≤ 1000000 ∧ off + n * es ≤ b.cells.length then some (.slice id off n (some n) es, H) else none
      | none => none
    | _ => none
  | .die => none
  | .call .. => none
  | .callv .. => none
  | .inv .. => none
  | .mq _ => none
  | .mkm name x => match x.ev τ with
    | .iface t v => some (.imeth name t v, H)
    | _ => none
  | .nilckm x tabs => match x.ev τ with
    | .func f cs => some (.func f cs, H)
    | .bound f x => some (.bound f x, H)
    | .imeth name t v => if hasM tabs name t = true then some (.imeth name t v, H) else none
    | _ => none
  | .tas x t ok z => match x.ev τ with
    | .iface t' v => if t' = t then some (if ok = true then .tuple [v, .bool true] else v, H) else if ok = true then some (.tuple [z, .bool false], H) else none
    | .nilIface => if ok = true then some (.tuple [z, .bool false], H) else none
    | _ => none
  | .tai x ts us ok => match x.ev τ with
    | .iface t' v => if ts.contains t' = true then some (if ok = true then .tuple [.iface t' v, .bool true] else .iface t' v, H) else if ok = true ∧ us.contains t' = true then some (.tuple [.nilIface, .bool false], H) else none
    | .nilIface => if ok = true then some (.tuple [.nilIface, .bool false], H) else none
    | _ => none

/-- a constant that is one cell -/
def ofVal0 : Value → Option AV
  | .bool b => some (.bool b)
  | .int k n => some (.int k n)
  | .string s => some (.str s.data.toList)
  | .pointer none => some .nilPtr
  | .slice none 0 0 => some .nilSlice
  | .nilFunc => some .nilFunc
  | .nilIface => some .nilIface
  | .map none => some .nilMap
  | _ => none

def ofVals : List Value → Option (List AV)
  | [] => some []
  | v :: r => match ofVal0 v, ofVals r with
    | some a, some l => some (a :: l)
    | _, _ => none

def ofVal : Value → Option AV
  | .agg cs => (ofVals cs.toList).map .agg
  | .tuple cs => (ofVals cs.toList).map .tuple
  | v => ofVal0 v

def cX : Operand → Option MX
  | .tmp t => some (.t t)
  | .const v => (ofVal v).map .c
  | .func f => some (.c (.func f []))
  | .global g => some (.c (.gl g 0))

def cXs : List Operand → Option (List MX)
  | [] => some []
  | x :: r => match cX x, cXs r with
    | some a, some l => some (a :: l)
    | _, _ => none

def cO : Option Operand → Option (Option MX)
  | none => some none
  | some x => (cX x).map some

/-- a type's cells, and whether it is a struct or an array -/
def cT (P : Program) (t : TypeId) : Option (Nat × Bool) :=
  match P.info? t, P.underlying t with
  | some i, some d => some (i.size, match d with | .struct _ | .array _ _ => true | _ => false)
  | _, _ => none

def cZ (P : Program) (t : TypeId) : Option (List AV) :=
  match P.info? t with
  | some i => match i.zero with
    | some z => match ofVals z.cells.toList with
      | some l => if l.all AV.one = true ∧ l.length = i.size then some l else none
      | none => none
    | none => none
  | none => none

def cParts : List (Nat × Operand) → Option (List (Nat × MX))
  | [] => some []
  | (i, x) :: r => match cX x, cParts r with
    | some a, some l => some ((i, a) :: l)
    | _, _ => none

def cFields (P : Program) (fs : Array Field) : List (Nat × Operand) → Option (List (Nat × Nat × MX))
  | [] => some []
  | (i, x) :: r => match fs[i]?, cX x, cFields P fs r with
    | some f, some a, some l => match P.info? f.type with
      | some j => some ((f.offset, j.size, a) :: l)
      | none => none
    | _, _, _ => none

/-- parts that lie one behind the other, each of whole numbers alone: how many cells -/
def partsT (P : Program) (F : TypeId → Option Nat) : Nat → List (TypeId × Nat) → Option Nat
  | o, [] => some o
  | o, (t, p) :: r => match F t, cT P t with
    | some m, some (m', ag) => if p = o ∧ m' = m ∧ (ag = true ∨ m = 1) then partsT P F (o + m) r else none
    | _, _ => none

/-- how many whole numbers lie in a value of a type that has nothing else -/
def flatT (P : Program) : Nat → TypeId → Option Nat
  | 0, _ => none
  | d + 1, t => match P.underlying t with
    | some (.int _) => if cT P t = some (1, false) then some 1 else none
    | some (.array n e) => match cT P e with
      | some (m, _) => partsT P (flatT P d) 0 ((List.range n).map fun i => (e, i * m))
      | none => none
    | some (.struct fs) => if P.stoodInHeld t = false ∧ (fs.toList.all fun f => f.name != "_") = true then partsT P (flatT P d) 0 (fs.toList.map fun f => (f.type, f.offset)) else none
    | _ => none

def isPtr : TypeDesc → Bool
  | .pointer _ => true
  | _ => false
/-- a type's method that is called with the value itself -/
def methOf (P : Program) (name : String) (t : TypeId) : Option FuncId :=
  match P.info? t, P.underlying t with
  | some i, some d => match i.methods.find? (·.name == name) with
    | some m => if m.path.isEmpty = true then match m.func with
        | some (f, b) => if b = isPtr d then some f else none
        | none => none
      else none
    | none => none
  | _, _ => none
def methTab (P : Program) (name : String) : List (TypeId × FuncId) := (List.range P.types.size).filterMap fun t => (methOf P name t).map (t, ·)
def tabGet : List (TypeId × FuncId) → TypeId → Option FuncId
  | [], _ => none
  | (u, f) :: r, t => if u = t then some f else tabGet r t
/-- the methods' names, each with the types of which it is called with the value itself -/
def okMeths (P : Program) : List (String × List TypeId) :=
  ((List.range P.types.size).flatMap fun t => match P.info? t with
    | some i => (i.methods.toList.filter fun m => (methOf P m.name t).isSome).map (·.name)
    | none => []).eraseDups.map fun n => (n, (methTab P n).map (·.1))
def allMeths (P : Program) : List (String × TypeId × FuncId) := (okMeths P).flatMap fun q => q.2.filterMap fun t => (methOf P q.1 t).map fun f => (q.1, t, f)
/-- the types that have an interface's methods -/
def haveAll (P : Program) (want : Array (String × TypeId)) : List TypeId := (List.range P.types.size).filter fun t => match P.info? t with
  | some i => (Instr.missingMethod want i.methods).isNone
  | none => false
def lackSome (P : Program) (want : Array (String × TypeId)) : List TypeId := (List.range P.types.size).filter fun t => match P.info? t with
  | some i => !(Instr.missingMethod want i.methods).isNone
  | none => false

/-- a map's type: whether its keys are texts, and its elements' type -/
def cMT (P : Program) (t : TypeId) : Option (Bool × TypeId) :=
  match P.underlying t with
  | some (.map k e) => match P.underlying k with
    | some (.int _) => some (false, e)
    | some .string => some (true, e)
    | _ => none
  | _ => none

def cMq (P : Program) (o : Oper) : Option MQ :=
  match o.op with
  | .makeMap _ none => some .mk
  | .lookup t x k ok => match cMT P t, cX x, cX k with
    | some (st, e), some x, some k => match P.info? e with
      | some i => match i.zero with
        | some zv => (ofVal zv).map (.lk x k ok st)
        | none => none
      | none => none
    | _, _, _ => none
  | .mapUpdate t x k v | .insert t x k v => match cMT P t, cX x, cX k, cX v with
    | some (st, _), some x, some k, some v => some (.up x k v st)
    | _, _, _, _ => none
  | .range t x => match cMT P t, cX x with
    | some _, some x => some (.rg x)
    | _, _ => none
  | .next x false => (cX x).map .nx
  | .entry x => (cX x).map .en
  | _ => none

/-- delete -/
def cMd (P : Program) (c : Call) : Option MQ :=
  match c.args.toList, c.argTypes.toList with
  | [x, k], t :: _ => match cMT P t, cX x, cX k with
    | some (st, _), some x, some k => some (.dl x k st)
    | _, _, _ => none
  | _, _ => none

def cOp (P : Program) (o : Oper) : Option MOp :=
  match o.op with
  | .move x | .assign x => (cX x).map .mv
  | .pick c a b => match cX c, cX a, cX b with
    | some c, some a, some b => some (.pick c a b)
    | _, _, _ => none
  | .binOp op t x y _ => match P.underlying t, cX x, cX y with
    | some (.int _), some x, some y => some (.bin op x y)
    | some .string, some x, some y => some (.bin op x y)
    | some .bool, some x, some y => match op with
      | .eql => some (.beq false x y)
      | .neq => some (.beq true x y)
      | _ => none
    | some (.slice _), some x, some y => match op with
      | .eql => some (.nileq false x y)
      | .neq => some (.nileq true x y)
      | _ => none
    | some (.pointer _), some x, some y => match op with
      | .eql => some (.peq false x y)
      | .neq => some (.peq true x y)
      | _ => none
    | some (.array _ _), some x, some y => match flatT P 9 t with
      | some n => if P.eqGuardType P.depth t = false then
          match op with
          | .eql => some (.ageq false n x y)
          | .neq => some (.ageq true n x y)
          | _ => none
        else none
      | none => none
    | some (.struct _), some x, some y => match flatT P 9 t with
      | some n => if P.eqGuardType P.depth t = false then
          match op with
          | .eql => some (.ageq false n x y)
          | .neq => some (.ageq true n x y)
          | _ => none
        else none
      | none => none
    | _, _, _ => none
  | .unOp op _ x => (cX x).map (.un op)
  | .convert src dst x => match P.underlying src, P.underlying dst, cX x with
    | some (.int _), some (.int k), some x => some (.conv k x)
    | _, _, _ => none
  | .load t p => match cT P t, cX p with
    | some (n, ag), some p => some (.ld p n ag)
    | _, _ => none
  | .store t p v => match cT P t, cX p, cX v with
    | some (n, _), some p, some v => some (.st p v n)
    | _, _, _ => none
  | .box _ x => (cX x).map .box
  | .alloc t => (cZ P t).map .new
  | .build t ps => match P.underlying t, cZ P t with
    | some (.struct fs), some z => if (fs.toList.all fun f => (P.info? f.type).isSome) = true then (cFields P fs ps.toList).map (.bld z) else none
    | some (.array _ e), some z => match P.info? e, cParts ps.toList with
      | some j, some l => some (.bld z (l.map fun q => (q.1 * j.size, j.size, q.2)))
      | _, _ => none
    | _, _ => none
  | .buildSlice t n ps => match P.underlying t with
    | some (.slice e) => match P.info? e, cZ P e, cParts ps.toList with
      | some j, some z, some l => if n * j.size ≤ 16777216 ∧ 0 < j.size then some (.bsl n j.size z l) else none
      | _, _, _ => none
    | _ => none
  | .makeSlice t n c => match P.underlying t with
    | some (.slice e) => match P.info? e, cZ P e, cX n, cX c with
      | some j, some z, some n, some c => if 0 < j.size then some (.mks n c z j.size j.bytes) else none
      | _, _, _, _ => none
    | _ => none
  | .slice t x lo hi mx => match P.underlying t, cX x, cO lo, cO hi, cO mx with
    | some (.slice e), some x, some lo, some hi, some mx => match P.info? e with
      | some j => if mx.isSome = true ∧ hi.isSome = false then none else some (.sl x lo hi mx j.size)
      | none => none
    | some .string, some x, some lo, some hi, some none => some (.sls x lo hi)
    | some (.array n e), some x, some none, some none, some none => (P.info? e).map fun j => .sla x n j.size
    | _, _, _, _, _ => none
  | .fieldAddr t x f => match P.underlying t, cX x with
    | some (.struct fs), some x => match fs[f]? with
      | some f => match P.info? f.type with
        | some j => if j.size = 0 then none else some (.fa x f.offset)
        | none => none
      | none => none
    | _, _ => none
  | .field t x f => match P.underlying t, cX x with
    | some (.struct fs), some x => match fs[f]? with
      | some f => match cT P f.type with
        | some (n, ag) => some (.fld x f.offset n ag)
        | none => none
      | none => none
    | _, _ => none
  | .indexAddr t x i => match P.underlying t, cX x, cX i with
    | some (.slice e), some x, some i => (P.info? e).map fun j => .ixa x i j.size
    | some (.array n e), some x, some i => (P.info? e).map fun j => .arra x i n j.size
    | _, _, _ => none
  | .index t x i => match P.underlying t, cX x, cX i with
    | some .string, some x, some i => some (.chr x i)
    | some (.array n e), some x, some i => (cT P e).map fun j => .arr x i n j.1 j.2
    | _, _, _ => none
  | .extract x i => (cX x).map (.ext · i)
  | .nilCheck x => match P.underlying o.type with
    | some (.func ..) => (cX x).map (.nilckm · (okMeths P))
    | _ => (cX x).map .nilck
  | .typeAssert x _ t ok => match P.underlying t, cX x with
    | some (.interface want), some x => match P.info? t with
      | some i => match i.zero with
        | some .nilIface => some (.tai x (haveAll P want) (lackSome P want) ok)
        | _ => none
      | none => none
    | some _, some x => match P.info? t with
      | some i => match i.zero with
        | some zv => (ofVal zv).map (.tas x t ok)
        | none => none
      | none => none
    | _, _ => none
  | .panic _ => some .die
  | .makeInterface t x => match P.underlying t, cX x with
    | some (.interface _), _ => none
    | some _, some x => some (.mki t x)
    | _, _ => none
  | .makeFunc (.method name) first cs => match first.toList with
    | [x] => if cs.isEmpty = true then (cX x).map (.mkm name) else none
    | _ => none
  | .makeFunc (.func f) first cs => match first.toList with
    | [] => (cXs cs.toList).map (.mkf f)
    | [x] => if cs.isEmpty = true then (cX x).map (.mkb f) else none
    | _ => none
  | .call c => match c.callee with
    | .builtin .len => match c.args.toList, c.argTypes.toList with
      | [x], [t] => match P.underlying t, cX x with
        | some (.slice _), some x => some (.len x)
        | some .string, some x => some (.lens x)
        | _, _ => none
      | _, _ => none
    | .builtin .cap => match c.args.toList, c.argTypes.toList with
      | [x], [t] => match P.underlying t, cX x with
        | some (.slice _), some x => some (.cap0 x)
        | _, _ => none
      | _, _ => none
    | .builtin .copy => match c.args.toList, c.argTypes.toList with
      | [x, y], [t, u] => match P.underlying t, P.underlying u, cX x, cX y with
        | some (.slice e), some (.slice _), some x, some y => (P.info? e).map fun j => .cpy x y j.size
        | _, _, _, _ => none
      | _, _ => none
    | .builtin .append => match c.args.toList, c.argTypes.toList with
      | [x, y], [t, u] => match P.underlying t, P.underlying u, cX x, cX y with
        | some (.slice e), some (.slice _), some x, some y => match P.info? e, cZ P e with
          | some j, some _ => some (.app x y j.size j.bytes)
          | _, _ => none
        | some (.slice e), some (.int .i64), some x, some y => match P.info? e, cZ P e with
          | some j, some z => some (.app0 x y z j.size j.bytes)
          | _, _ => none
        | _, _, _, _ => none
      | _, _ => none
    | .builtin .max => match c.args.toList with
      | x :: ys => match cX x, cXs ys with
        | some x, some ys => some (.mnmx true x ys)
        | _, _ => none
      | _ => none
    | .builtin .min => match c.args.toList with
      | x :: ys => match cX x, cXs ys with
        | some x, some ys => some (.mnmx false x ys)
        | _, _ => none
      | _ => none
    | .invoke x name => match cX x, cXs c.args.toList with
      | some x, some l => some (.inv (methTab P name) x l)
      | _, _ => none
    | .builtin .delete => (cMd P c).map .mq
    | .value (.func f) => (cXs c.args.toList).map (.call f)
    | .value x => match cX x, cXs c.args.toList with
      | some x, some l => some (.callv x l)
      | _, _ => none
    | _ => none
  | .makeFunc _ _ _ => none
  | _ => (cMq P o).map .mq

end Go.Rx
