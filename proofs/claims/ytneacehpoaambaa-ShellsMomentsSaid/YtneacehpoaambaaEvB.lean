/-
  The evaluator, part B: the model's code, turned into what the evaluator runs.
-/
import Derived.Test.YtneacehpoaambaaEvA
import GoSem.Core.Program
import GoSem.Core.Region
namespace Go.Ev
open Go
noncomputable section

/-- What is known of a type: its description, the number of its cells, its bytes, its zero. -/
structure TD where
  desc : TypeDesc
  size : Nat
  bytes : Nat
  zero : Value
  key : Option KD := none

def mapO {α β : Type} (f : α → Option β) : List α → Option (List β)
  | [] => some []
  | x :: l => match f x with
    | some y => (mapO f l).map (y :: ·)
    | none => none

def ofV1 : Value → Option V
  | .bool b => some (.b b)
  | .int k n => some (.i k n)
  | .string s => some (.s s)
  | .pointer none => some .pn
  | .slice none 0 0 => some .sn
  | .map none => some .mn
  | .nilFunc => some .fnil
  | .nilIface => some .inil
  | _ => none
def ofVal : Value → Option V
  | .agg cs => (mapO ofV1 cs.toList).map .agg
  | .tuple vs => match vs.toList with | [] => some (.tup []) | _ => none
  | v => ofV1 v

def eo : Operand → Option EO
  | .tmp t => some (.t (K.ofNat t))
  | .const v => (ofVal v).map .c
  | .func f => some (.c (.fn (K.ofNat f) []))
  | .global _ => none

abbrev Tab := Nat → Option TD
def TD.agg (d : TD) : Bool := match d.desc with | .struct _ => true | .array _ _ => true | _ => false
def zeroOf (d : TD) : Option (List V) := mapO ofV1 d.zero.cells.toList
def optEo : Option Operand → Option (Option EO)
  | none => some none
  | some x => (eo x).map some
def partsAt (all : Nat) (place : Nat → Option (Nat × Nat)) : List (Nat × Operand) → Option (List (Nat × Nat × EO))
  | [] => some []
  | (i, x) :: l => match place i, eo x with
    | some o, some x => if o.1 + o.2 ≤ all then (partsAt all place l).map ((o.1, o.2, x) :: ·) else none
    | _, _ => none
def sameOp : Operand → Operand → Bool
  | .tmp a, .tmp b => a == b
  | .const (.int k a), .const (.int k' b) => k == k' && a == b
  | _, _ => false
def plainDesc : TypeDesc → Bool
  | .bool | .int _ | .string => true
  | _ => false

def compOp (tab : Tab) : Op → Option EOp
  | .move x | .assign x => (eo x).map .mv
  | .pick c a b => do some (.pick (← eo c) (← eo a) (← eo b))
  | .alloc t => do
    let d ← tab t
    let z ← zeroOf d
    some (.alloc z.length z)
  | .box t x => do some (.box (← tab t).size (← eo x))
  | .build t ps => do
    let d ← tab t
    match d.desc with
    | .array _ e => do
      let de ← tab e
      let z ← zeroOf d
      some (.build z (← partsAt z.length (fun i => some (i * de.size, de.size)) ps.toList))
    | .struct fs => do
      let z ← zeroOf d
      let szs ← mapO (fun f : Field => (tab f.type).map fun d => (f.offset, d.size)) fs.toList
      some (.build z (← partsAt z.length (fun i => szs[i]?) ps.toList))
    | _ => none
  | .buildSlice t n ps => do
    let d ← tab t
    match d.desc with
    | .slice e => do
      let de ← tab e
      let z ← zeroOf de
      if 0 < de.size ∧ z.length = de.size ∧ n * de.size ≤ 16777216 then
        some (.bslice n de.size (rep z n) (← partsAt (n * de.size) (fun i => some (i * de.size, de.size)) ps.toList))
      else none
    | _ => none
  | .load t a => do
    let d ← tab t
    if d.agg then some (.ldn d.size (← eo a)) else some (.ld (← eo a))
  | .store t a x => do some (.st (← tab t).size (← eo a) (← eo x))
  | .binOp op t x y _ => do
    let d ← tab t
    match d.desc with
    | .int _ => some (.bin op (← eo x) (← eo y))
    | _ => do
      let kd ← d.key
      match op with
      | .eql => some (.eqk kd false (← eo x) (← eo y))
      | .neq => some (.eqk kd true (← eo x) (← eo y))
      | _ => none
  | .unOp .not _ x => (eo x).map .not
  | .unOp .neg _ x => (eo x).map .neg
  | .convert s t x => do
    match (← tab s).desc, (← tab t).desc with
    | .int _, .int k => (eo x).map (.conv k)
    | _, _ => none
  | .makeFunc (.func f) fs cs => if fs.isEmpty then (mapO eo cs.toList).map (.mkfn (K.ofNat f)) else none
  | .makeMap t none => do
    match (← tab t).desc with
    | .map kt _ => do
      let _ ← (← tab kt).key
      some (.mkmap kt)
    | _ => none
  | .makeSlice t l c => do
    if sameOp l c then
    match (← tab t).desc with
    | .slice e => do
      let de ← tab e
      let z ← zeroOf de
      if 0 < de.size ∧ z.length = de.size ∧ de.bytes ≤ 1000000 then some (.mkslice de.size z (← eo l)) else none
    | _ => none
    else none
  | .slice t x lo hi mx => do
    match (← tab t).desc with
    | .slice e =>
      if (mx.isSome = true → hi.isSome = true) then do some (.slice (← tab e).size (← eo x) (← optEo lo) (← optEo hi) (← optEo mx)) else none
    | _ => none
  | .fieldAddr t x f => do
    match (← tab t).desc with
    | .struct fs => do
      let fd ← fs[f]?
      if (← tab fd.type).size = 0 then none else some (.fadr fd.offset (← eo x))
    | _ => none
  | .field t x f => do
    match (← tab t).desc with
    | .struct fs => do
      let fd ← fs[f]?
      let de ← tab fd.type
      some (.fld fd.offset (if de.agg then some de.size else none) (← eo x))
    | _ => none
  | .indexAddr t x i => do
    match (← tab t).desc with
    | .array n e => do some (.iadr n (← tab e).size (← eo x) (← eo i))
    | .slice e => do some (.iads (← tab e).size (← eo x) (← eo i))
    | _ => none
  | .index t x i => do
    match (← tab t).desc with
    | .array n e => do let de ← tab e; some (.ix n de.size de.agg (← eo x) (← eo i))
    | _ => none
  | .lookup t m k ok => do
    match (← tab t).desc with
    | .map kt e => do some (.look kt (← (← tab kt).key) (← ofVal (← tab e).zero) (← eo m) (← eo k) ok)
    | _ => none
  | .mapUpdate t m k v => do
    match (← tab t).desc with
    | .map kt _ => do some (.mupd kt (← (← tab kt).key) (← eo m) (← eo k) (← eo v))
    | _ => none
  | .extract x i => do some (.ext (← eo x) i)
  | .call c => match c.callee with
    | .value f => do some (.call (← eo f) (← mapO eo c.args.toList))
    | .builtin .len => match c.args.toList, c.argTypes.toList with
      | [x], [t] => do
        match (← tab t).desc with
        | .slice _ => (eo x).map .len
        | _ => none
      | _, _ => none
    | .builtin .append => match c.args.toList, c.argTypes.toList with
      | [x, y], [t, t'] => do
        match (← tab t).desc with
        | .slice e => do
          if t = t' then
          let de ← tab e
          if 0 < de.size ∧ de.zero.cells.size = de.size ∧ de.bytes ≤ 1000000 then some (.app de.size (← eo x) (← eo y)) else none
          else none
        | _ => none
      | _, _ => none
    | .builtin .min => match c.args.toList with
      | [x, y] => do some (.min (← eo x) (← eo y))
      | _ => none
    | .builtin .max => match c.args.toList with
      | [x, y] => do some (.max (← eo x) (← eo y))
      | _ => none
    | _ => none
  | _ => none

def dstB (nt : Nat) : Option Nat → Bool
  | some d => decide (d < nt)
  | none => true
def guardOf (all : List Oper) : Option (Nat × Bool) → Option (Option (K × Bool))
  | none => some none
  | some (j, b) => match (all[j]?).bind (·.dst) with
    | some t => some (some (K.ofNat t, b))
    | none => none
def compOper? (tab : Tab) (nt : Nat) (all : List Oper) (o : Oper) : Option EOper :=
  match compOp tab o.op, guardOf all o.guard with
  | some op, some g => if dstB nt o.dst then some ⟨o.dst.map K.ofNat, g, op⟩ else none
  | _, _ => none
def compOper (tab : Tab) (nt : Nat) (all : List Oper) (o : Oper) : EOper := (compOper? tab nt all o).getD ⟨none, none, .no⟩

/-! ### Statements whose order is open -/
/-- 0: it reads; 1: it makes a slice's literal; 2: it turns memory, or a variable. -/
def kindE : EOp → Nat
  | .bslice .. => 1
  | .st .. | .mupd .. | .call .. | .alloc .. | .box .. | .mkmap .. | .mkslice .. | .app .. | .no => 2
  | _ => 0
def edgesOf (o : Oper) : List Nat := (o.after.toList.filter fun e => Region.binds .any e).map (·.on)
def EO.key : EO → List K
  | .t k => [k]
  | .c _ => []
def okey (o : Option EO) : List K := match o with | some x => x.key | none => []
def EOp.keys : EOp → List K
  | .mv x | .box _ x | .ld x | .ldn _ x | .not x | .neg x | .conv _ x | .mkslice _ _ x | .fadr _ x | .fld _ _ x | .ext x _ | .len x => x.key
  | .pick c a b => c.key ++ (a.key ++ b.key)
  | .build _ ps | .bslice _ _ _ ps => ps.flatMap fun p => p.2.2.key
  | .st _ x y | .bin _ x y | .eqk _ _ x y | .look _ _ _ x y _ | .iadr _ _ x y | .iads _ x y | .ix _ _ _ x y | .app _ x y | .min x y | .max x y => x.key ++ y.key
  | .mkfn _ l => l.flatMap EO.key
  | .mupd _ _ m k v => m.key ++ (k.key ++ v.key)
  | .slice _ x a b c => x.key ++ (okey a ++ (okey b ++ okey c))
  | .call f l => f.key ++ l.flatMap EO.key
  | .alloc .. | .mkmap _ | .no => []
def EOper.reads (o : EOper) : List K := (match o.g with | some p => [p.1] | none => []) ++ o.op.keys
structure DI where
  rk : Nat
  lim : Nat
  anc : Nat
  deriving Inhabited
def inA (anc m : Nat) : Bool := Nat.beq (anc / 2 ^ m % 2) 1
def opAt (xs : List EOper) (i : Nat) : EOper := xs.getD i ⟨none, none, .no⟩
def edAt (ed : List (List Nat)) (i : Nat) : List Nat := ed.getD i []
def diAt (f : List DI) (i : Nat) : DI := f.getD i ⟨0, 0, 0⟩
def loudAt (xs : List EOper) (i : Nat) : Bool := Nat.beq (kindE (opAt xs i).op) 2
def rawInfo : List (EOper × List Nat) → Nat → List DI → List DI
  | [], _, acc => acc
  | (o, es) :: l, louds, acc =>
    let anc := es.foldl (fun s e => Nat.lor (Nat.lor s (2 ^ e)) (diAt acc e).anc) 0
    if Nat.beq (kindE o.op) 2 then rawInfo l (louds + 1) (acc ++ [⟨louds + 1, 0, anc⟩])
    else rawInfo l louds (acc ++ [⟨es.foldl (fun m e => max m (diAt acc e).rk) 0, 0, anc⟩])
def louds (xs : List EOper) : Nat := ((List.range xs.length).filter (loudAt xs)).length
def info (xs : List EOper) (ed : List (List Nat)) : List DI :=
  let raw := rawInfo (xs.zip ed) 0 []
  (List.range xs.length).map fun i => { diAt raw i with lim := (List.range xs.length).foldl (fun m j => if loudAt xs j && inA (diAt raw j).anc i then min m ((diAt raw j).rk - 1) else m) (louds xs) }

/-! What must hold of the edges. -/
section
variable (xs : List EOper) (ed : List (List Nat)) (f : List DI)
def chk1 (i : Nat) : Bool := (edAt ed i).all fun e => Nat.blt e i
def chk2 (i : Nat) : Bool := (List.range xs.length).all fun m => !inA (diAt f i).anc m || (edAt ed i).any fun e => Nat.beq e m || inA (diAt f e).anc m
def chk3 (i : Nat) : Bool := !loudAt xs i || (Nat.ble 1 (diAt f i).rk && Nat.ble (diAt f i).rk (louds xs) && (List.range xs.length).all fun j => !loudAt xs j || ((!Nat.blt (diAt f j).rk (diAt f i).rk || inA (diAt f i).anc j) && (!Nat.beq (diAt f j).rk (diAt f i).rk || Nat.beq i j)))
def chk4 (i : Nat) : Bool := loudAt xs i || (Nat.beq (diAt f i).rk 0 || (edAt ed i).any fun e => Nat.beq (diAt f e).rk (diAt f i).rk)
def chk5 (i : Nat) : Bool := loudAt xs i || (List.range xs.length).all fun j => !(loudAt xs j && Nat.beq (diAt f j).rk ((diAt f i).lim + 1)) || inA (diAt f j).anc i
def dstFar (i j : Nat) : Bool := match (opAt xs j).dst with
  | some t => !((opAt xs i).reads ++ (opAt xs i).dst.toList).contains t || inA (diAt f i).anc j || (loudAt xs j && inA (diAt f j).anc i)
  | none => true
def chk6 (i : Nat) : Bool := (List.range xs.length).all fun j => Nat.beq i j || dstFar xs f i j
def chk7 (i : Nat) : Bool := !Nat.beq (kindE (opAt xs i).op) 1 || (List.range xs.length).all fun j => !(loudAt xs j && inA (diAt f i).anc j) || Nat.ble (diAt f j).rk (diAt f i).rk
def ownFar (i : Nat) : Bool := match (opAt xs i).dst with
  | some t => !(opAt xs i).reads.contains t
  | none => true
def chk8 (i : Nat) : Bool := loudAt xs i || ownFar xs i
def drawB : Bool :=
  ((List.range (louds xs)).all fun k => (List.range xs.length).any fun j => loudAt xs j && Nat.beq (diAt f j).rk (k + 1)) &&
  (List.range xs.length).all fun i => chk1 ed i && chk2 xs ed f i && chk3 xs f i && chk4 xs ed f i && chk5 xs f i && chk6 xs f i && chk7 xs f i && chk8 xs i
def pickI (p : Nat → Bool) : List Nat := (List.range xs.length).filter p
def stageOf (k : Nat) : Stage :=
  ⟨(pickI xs fun i => !loudAt xs i && Nat.beq (diAt f i).rk k).map (opAt xs),
   (pickI xs fun i => !loudAt xs i && Nat.ble (diAt f i).rk k && Nat.ble k (diAt f i).lim).map (opAt xs),
   ((pickI xs fun i => loudAt xs i && Nat.beq (diAt f i).rk (k + 1)).map (opAt xs)).head?,
   (pickI xs fun i => Nat.beq (kindE (opAt xs i).op) 1 && Nat.beq (diAt f i).rk k).filterMap fun i => (opAt xs i).dst⟩
def stagesFrom (k : Nat) : List Stage := (List.range' k (louds xs + 1 - k)).map (stageOf xs f)
end
def isBS (o : Op) : Bool := match o with | .buildSlice .. => true | _ => false
def bsOk (x : EOper) (o : Oper) : Bool := !Nat.beq (kindE x.op) 1 || isBS o.op
def compDraw (ok : Bool) (xs : List EOper) (ed : List (List Nat)) : EC := if ok && drawB xs ed (info xs ed) then .draw (stagesFrom xs (info xs ed) 0) else .no

def comp (tab : Tab) (nt : Nat) : Code → EC
  | .skip => .skip
  | .region _ ops false => .reg (ops.toList.map (compOper tab nt ops.toList))
  | .region _ ops true => compDraw (ops.toList.all fun o => bsOk (compOper tab nt ops.toList o) o) (ops.toList.map (compOper tab nt ops.toList)) (ops.toList.map edgesOf)
  | .seq a b => .seq (comp tab nt a) (comp tab nt b)
  | .cond c a b => match eo c with
    | some c => .cond c (comp tab nt a) (comp tab nt b)
    | none => .no
  | .block id c => .block id (comp tab nt c)
  | .loop c => .loop (comp tab nt c)
  | .rangeFunc f ps a c => match eo f with
    | some f => if ps.toList.all (fun p => decide (p < nt)) then .rangeF f (ps.toList.map K.ofNat) (comp tab nt a) (comp tab nt c) else .no
    | none => .no
  | .exit id => .exit id
  | .ret => .ret
  | .label _ => .skip
  | .scope c => .scope (comp tab nt c)
  | _ => .no

def compR (tab : Tab) : ResultVar → Option ER
  | .tmp t => some (.tmp (K.ofNat t))
  | .cell t ty => match tab ty with
    | some d => some (if d.agg then .celln (K.ofNat t) d.size else .cell (K.ofNat t))
    | none => none
def compF (tab : Tab) (f : Func) : Option EF :=
  match f.body, mapO (compR tab) f.results.toList with
  | some c, some rs => some ⟨f.ntmps, rs, comp tab f.ntmps c, none⟩
  | _, _ => none
end
end Go.Ev
