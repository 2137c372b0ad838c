/-
  Instructions on plain data: what each asks of the slots and names (ok), what it leaves in them (upd), what it reads and writes (ent); how operands are read; what a call does. Definitions alone.
-/
import Derived.Test.YtimpofjjndbofaaVWld
namespace Go.Proofs.Ytimpofjjndbofaa
open Go.RowKit

/-- The call of f on the data ds, handed the named blocks H, answers r, and leaves H' of the blocks, and perhaps new ones. -/
def Does (P : Program) (f : FuncId) (H ds : List D) (r : D) (H' : List D) : Prop :=
  ∀ (w : World) (F : Cells) (m : Names) (xs : List Value), xs.length = ds.length → H.length ≤ H'.length → (∀ b o, F b o → b < w.heap.size) →
    (∀ (i : Nat) (d : D) (x : Value), ds[i]? = some d → xs[i]? = some x → Fz w F m d x) → (∀ (i : Nat) (d : D), H[i]? = some d → d.isBlk = true ∧ Blk w F m (nb + i) d) → (∀ g, g < nb ∨ nb + H.length ≤ g → m g = none) →
    (∀ i j b, i < H.length → j < H.length → m (nb + i) = some (some b) → m (nb + j) = some (some b) → i = j) →
    Calls P f xs.toArray w (fun e w' => ∃ (x : Value) (F' : Cells) (m' : Names), e = .returned x ∧ Chg w F (fun b => ∃ i, i < H.length ∧ m (nb + i) = some (some b)) w' F' ∧
      (∀ b o, F' b o → b < w'.heap.size) ∧ (∀ i, i < H.length → m' (nb + i) = m (nb + i)) ∧ (∀ g, g < nb ∨ nb + H'.length ≤ g → m' g = none) ∧ Fz w' F' m' r x ∧ (∀ (i : Nat) (d : D), H'[i]? = some d → d ≠ .free ∧ Blk w' F' m' (nb + i) d) ∧
      (∀ i j b d d', H'[i]? = some d → H'[j]? = some d' → d.isBlk = true → d'.isBlk = true → m' (nb + i) = some (some b) → m' (nb + j) = some (some b) → i = j) ∧
      (∀ i d b, H'[i]? = some d → d.isBlk = true → m' (nb + i) = some (some b) → (∃ j, j < H.length ∧ m (nb + j) = some (some b)) ∨ w.heap.size ≤ b))

/-- A constant as data. -/
def constD : Value → D
  | .slice none 0 0 => .nul
  | .func (.func f) a b => if a.isEmpty && b.isEmpty then .fn f [] else .v (.func (.func f) a b)
  | x => .v x

inductive Opd where
  | t (n : Nat)
  | k (d : D)
namespace Opd
def val (σ : Env) : Opd → D
  | t n => σ n
  | k d => d
def rd : Opd → List Nat
  | t n => [n]
  | k _ => []
end Opd
def opd : Operand → Option Opd
  | .tmp t => if t < nb then some (.t t) else none
  | .const x => some (.k (constD x))
  | .func f => some (.k (.fn f []))
  | .global _ => none

namespace D
/-- Surely one cell. -/
def one : D → Bool
  | v x => x.oneCell'
  | sl _ _ => true
  | nul => true
  | ifc _ _ => true
  | fn _ _ => true
  | ptr _ => true
  | ref _ _ => true
  | own _ _ _ => true
  | eref _ _ _ _ => true
  | _ => false
def setAll (cs : List D) (o : Nat) (us : List D) : List D := cs.take o ++ us ++ cs.drop (o + us.length)
def int? : D → Option Int
  | v (.int _ n) => some n
  | _ => none
/-- A cell, or n of them. -/
def getC (cs : List D) (o : Nat) : Option Nat → D
  | none => cs.getD o .any
  | some n => .agg ((cs.drop o).take n)
def getCok (cs : List D) (o : Nat) : Option Nat → Prop
  | none => o < cs.length
  | some n => o + n ≤ cs.length
/-- What is put into a cell, or n of them. -/
def asC (d : D) : Option Nat → List D
  | none => [d]
  | some _ => (match d with
    | .agg us => us
    | _ => [])
def asCok (d : D) : Option Nat → Prop
  | none => d.one = true
  | some n => (match d with
    | .agg us => us.length = n
    | _ => False)
def setC (cs : List D) (o : Nat) (d : D) : Option Nat → List D
  | none => cs.set o d
  | some n => setAll cs o (asC d (some n))
end D

def intBit (op : BinOp) (k : IntKind) (a b : Int) : Int :=
  match op with
  | .and => k.wrap (BitVec.ofInt k.bits a &&& BitVec.ofInt k.bits b).toNat
  | .or => k.wrap (BitVec.ofInt k.bits a ||| BitVec.ofInt k.bits b).toNat
  | .xor => k.wrap (BitVec.ofInt k.bits a ^^^ BitVec.ofInt k.bits b).toNat
  | _ => k.wrap (BitVec.ofInt k.bits a &&& ~~~BitVec.ofInt k.bits b).toNat
def binV (op : BinOp) (k : IntKind) (a b : Int) : Value :=
  match op with
  | .shl => .int k (k.wrap (a * 2 ^ (min b.toNat k.bits)))
  | .shr => .int k (a.fdiv (2 ^ (min b.toNat k.bits)))
  | .add => .int k (k.wrap (a + b))
  | .sub => .int k (k.wrap (a - b))
  | .mul => .int k (k.wrap (a * b))
  | .quo => .int k (k.wrap (a.tdiv b))
  | .rem => .int k (a.tmod b)
  | .and => .int k (intBit .and k a b)
  | .or => .int k (intBit .or k a b)
  | .xor => .int k (intBit .xor k a b)
  | .andNot => .int k (intBit .andNot k a b)
  | .eql => .bool (a == b)
  | .neq => .bool (a != b)
  | .lss => .bool (decide (a < b))
  | .leq => .bool (decide (a ≤ b))
  | .gtr => .bool (decide (b < a))
  | .geq => .bool (decide (b ≤ a))
def binVok (op : BinOp) (k k' : IntKind) (b : Int) : Prop :=
  match op with
  | .shl => 0 ≤ b
  | .shr => 0 ≤ b
  | .quo => k = k' ∧ b ≠ 0
  | .rem => k = k' ∧ b ≠ 0
  | _ => k = k'
def binS (op : BinOp) (a b : ByteArray) : Value :=
  match op with
  | .add => .string (a ++ b)
  | .eql => .bool (a.toList == b.toList)
  | _ => .bool (!(a.toList == b.toList))
def binSok (op : BinOp) (a b : ByteArray) : Prop :=
  match op with
  | .add => a.size + b.size ≤ 1099511627776
  | .eql => True
  | .neq => True
  | _ => False
def binD (op : BinOp) : D → D → D
  | .v (.int k a), .v (.int _ b) => .v (binV op k a b)
  | .v (.string a), .v (.string b) => .v (binS op a b)
  | _, _ => .any
def binOk (op : BinOp) : D → D → Prop
  | .v (.int k _), .v (.int k' b) => binVok op k k' b
  | .v (.string a), .v (.string b) => binSok op a b
  | _, _ => False

/-- Two structs of numbers and Booleans, cell by cell. -/
def eqB : List Bool → List D → List D → Bool
  | true :: ks, .v (.int _ a) :: xs, .v (.int _ b) :: ys => a == b && eqB ks xs ys
  | false :: ks, .v (.bool a) :: xs, .v (.bool b) :: ys => a == b && eqB ks xs ys
  | _, _, _ => true
def eqOk : List Bool → List D → List D → Prop
  | [], [], [] => True
  | true :: ks, .v (.int k _) :: xs, .v (.int k' _) :: ys => k = k' ∧ eqOk ks xs ys
  | false :: ks, .v (.bool _) :: xs, .v (.bool _) :: ys => eqOk ks xs ys
  | _, _, _ => False

def fillD (σ : Env) : List (Nat × Option Nat × Opd) → List D → List D
  | [], cs => cs
  | (o, n, x) :: l, cs => fillD σ l (D.setC cs o (x.val σ) n)
def fillOk (σ : Env) : List (Nat × Option Nat × Opd) → List D → Prop
  | [], _ => True
  | (o, n, x) :: l, cs => D.asCok (x.val σ) n ∧ o + n.getD 1 ≤ cs.length ∧ fillOk σ l (D.setC cs o (x.val σ) n)
def elemsD (σ : Env) (n : Option Nat) : List (Nat × Opd) → List D → List D
  | [], es => es
  | (i, x) :: l, es => elemsD σ n l (es.set i (x.val σ))
def elemsOk (σ : Env) (n : Option Nat) : List (Nat × Opd) → List D → Prop
  | [], _ => True
  | (i, x) :: l, es => D.asCok (x.val σ) n ∧ i < es.length ∧ elemsOk σ n l (es.set i (x.val σ))

/-- Where a pointer leads: the cells, the place among them. -/
def ptrC (σ : Env) (s : Nat) : List D :=
  match σ s with
  | .ref g _ => (match σ g with
    | .obj cs => cs
    | _ => [])
  | .eref g _ i _ => (match σ g with
    | .row _ es => (es.getD i .any).cells
    | _ => [])
  | .ptr cs => cs
  | _ => []
def ptrO (σ : Env) (s : Nat) : Nat :=
  match σ s with
  | .ref _ o => o
  | .eref _ _ _ o => o
  | _ => 0
def ptrOk (σ : Env) (s : Nat) : Prop :=
  match σ s with
  | .ref g _ => nb ≤ g ∧ (match σ g with
    | .obj _ => True
    | _ => False)
  | .eref g st i _ => nb ≤ g ∧ (match σ g with
    | .row st' es => st' = st ∧ i < es.length
    | _ => False)
  | .ptr _ => True
  | _ => False
def ptrRoot (σ : Env) (s : Nat) : List Nat :=
  match σ s with
  | .ref g _ => [g]
  | .eref g _ _ _ => [g]
  | _ => []
/-- A pointer moved on. -/
def ptrD (σ : Env) (s o : Nat) : D :=
  match σ s with
  | .ref g q => .ref g (q + o)
  | .eref g st i q => .eref g st i (q + o)
  | .ptr cs => .ptr (cs.drop o)
  | _ => .any
def ptrMv (σ : Env) (s : Nat) : Prop :=
  match σ s with
  | .ref _ _ => True
  | .eref _ _ _ _ => True
  | .ptr _ => True
  | _ => False

def intD (σ : Env) (x : Opd) : Int := (x.val σ).int?.getD 0
def intOk (σ : Env) (x : Opd) : Prop := (x.val σ).int?.isSome = true
def boundD (σ : Env) (x : Option Opd) (m : Nat) : Int :=
  match x with
  | none => m
  | some x => intD σ x
def boundOk (σ : Env) (x : Option Opd) : Prop :=
  match x with
  | none => True
  | some x => intOk σ x

def elemSet (e : D) (o : Nat) (d : D) (n : Option Nat) : D :=
  match e with
  | .agg cs => .agg (D.setC cs o d n)
  | _ => d
def stoU (σ : Env) (s : Nat) (d : D) (n : Option Nat) : Upd :=
  match σ s with
  | .ref g o => (match σ g with
    | .obj cs => [(g, .obj (D.setC cs o d n))]
    | _ => [])
  | .eref g st i o => (match σ g with
    | .row _ es => [(g, .row st (es.set i (elemSet (es.getD i .any) o d n)))]
    | _ => [])
  | _ => []
def notPtr : D → Prop
  | .ptr _ => False
  | _ => True

/-- A slice's elements. -/
def seqD (σ : Env) : D → List D
  | .sl _ es => es
  | .own g _ n => (match σ g with
    | .row _ es => es.take n
    | _ => [])
  | _ => []
def seqOk (σ : Env) (st : Nat) : D → Prop
  | .sl b es => b = st ∨ es = []
  | .nul => True
  | .own g s n => nb ≤ g ∧ s = st ∧ (match σ g with
    | .row s' es => s' = st ∧ n ≤ es.length
    | _ => False)
  | _ => False
def seqRoot : D → List Nat
  | .own g _ _ => [g]
  | _ => []
def isSl : D → Prop
  | .sl _ _ => False
  | _ => True
def lenD : D → Nat
  | .sl _ es => es.length
  | .own _ _ n => n
  | _ => 0
def lenOk : D → Prop
  | .sl _ _ => True
  | .nul => True
  | .own _ _ _ => True
  | _ => False

inductive In where
  | mov (d : Nat) (x : Opd)
  | pick (d : Nat) (c a b : Opd)
  | bin (d : Nat) (op : BinOp) (x y : Opd)
  | beq (d : Nat) (neg : Bool) (x y : Opd)
  | eqs (d : Nat) (neg : Bool) (ks : List Bool) (x y : Opd)
  | mm (d : Nat) (mx : Bool) (x y : Opd)
  | un (d : Nat) (op : UnOp) (x : Opd)
  | cvt (d : Nat) (k : IntKind) (x : Opd)
  | alloc (d g : Nat) (zs : List D)
  | box (d g : Nat) (x : Opd) (n : Option Nat)
  | build (d : Nat) (zs : List D) (ps : List (Nat × Option Nat × Opd))
  | bsl (d s : Nat) (n : Option Nat) (es : List D) (ps : List (Nat × Opd))
  | bslx (d g s : Nat) (n : Option Nat) (es : List D) (ps : List (Nat × Opd))
  | fad (d s o : Nat)
  | iad (d s : Nat) (i : Opd) (st : Nat)
  | iaa (d s : Nat) (i : Opd) (len st : Nat)
  | lod (d s : Nat) (n : Option Nat)
  | sto (s : Nat) (x : Opd) (n : Option Nat)
  | fld (d : Nat) (x : Opd) (o : Nat) (n : Option Nat)
  | ext (d s i : Nat)
  | len (d : Nat) (x : Opd)
  | lens (d : Nat) (x : Opd)
  | app (d g : Nat) (x y : Opd) (st by_ : Nat)
  | slc (d : Nat) (x : Opd) (lo hi : Option Opd) (st : Nat)
  | slcs (d : Nat) (x : Opd) (lo hi : Option Opd)
  | idx (d : Nat) (x i : Opd)
  | ida (d : Nat) (x i : Opd) (m st : Nat) (n : Option Nat)
  | mks (d g : Nat) (x : Opd) (st by_ : Nat) (e : D)
  | call (d : Nat) (f : FuncId) (xs : List Opd)
  | inv (d : Nat) (x : Opd) (name : String) (xs : List Opd)
  | cal (d : Nat) (x : Opd) (xs : List Opd)
  | ifc (d : Nat) (t : TypeId) (x : Opd)
  | mkf (d : Nat) (f : FuncId) (xs : List Opd)
  | nilc (d s : Nat)

def mmV (mx : Bool) (k : IntKind) (a b : Int) : Value := .int k (if mx then max a b else min a b)

def In.upd (σ : Env) : In → Upd
  | .mov d x => [(d, x.val σ)]
  | .pick d c a b => (match c.val σ with
    | .v (.bool q) => [(d, if q then a.val σ else b.val σ)]
    | _ => [])
  | .bin d op x y => [(d, binD op (x.val σ) (y.val σ))]
  | .beq d neg x y => (match x.val σ, y.val σ with
    | .v (.bool a), .v (.bool b) => [(d, .v (.bool (if neg then !(a == b) else (a == b))))]
    | _, _ => [])
  | .eqs d neg ks x y => (match x.val σ, y.val σ with
    | .agg xs, .agg ys => [(d, .v (.bool (if neg then !eqB ks xs ys else eqB ks xs ys)))]
    | _, _ => [])
  | .mm d mx x y => (match x.val σ, y.val σ with
    | .v (.int k a), .v (.int _ b) => [(d, .v (mmV mx k a b))]
    | _, _ => [])
  | .un d op x => (match op, x.val σ with
    | .not, .v (.bool b) => [(d, .v (.bool !b))]
    | .neg, .v (.int k n) => [(d, .v (.int k (k.wrap (0 - n))))]
    | _, _ => [])
  | .cvt d k x => [(d, .v (.int k (k.wrap (intD σ x))))]
  | .alloc d g zs => [(g, .obj zs), (d, .ref g 0)]
  | .box d g x n => [(g, .obj (D.asC (x.val σ) n)), (d, .ref g 0)]
  | .build d zs ps => [(d, .agg (fillD σ ps zs))]
  | .bsl d s n es ps => [(d, .sl s (elemsD σ n ps es))]
  | .bslx d g s n es ps => [(g, .row s (elemsD σ n ps es)), (d, .own g s es.length)]
  | .fad d s o => [(d, ptrD σ s o)]
  | .iad d s i st => (match σ s with
    | .sl _ es => [(d, .ptr (es.getD (intD σ i).toNat .any).cells)]
    | .own g _ _ => [(d, .eref g st (intD σ i).toNat 0)]
    | _ => [])
  | .iaa d s i _ st => [(d, ptrD σ s ((intD σ i).toNat * st))]
  | .lod d s n => [(d, D.getC (ptrC σ s) (ptrO σ s) n)]
  | .sto s x n => stoU σ s (x.val σ) n
  | .fld d x o n => (match x.val σ with
    | .agg cs => [(d, D.getC cs o n)]
    | _ => [])
  | .ext d s i => (match σ s with
    | .tup ps => [(d, ps.getD i .any)]
    | _ => [])
  | .len d x => [(d, .v (.int .i64 (lenD (x.val σ))))]
  | .lens d x => (match x.val σ with
    | .v (.string b) => [(d, .v (.int .i64 b.size))]
    | _ => [])
  | .app d g x y st _ => (match x.val σ with
    | .own h _ n => [(h, .any), (g, .row st (seqD σ (x.val σ) ++ seqD σ (y.val σ))), (d, .own g st (n + lenD (y.val σ)))]
    | _ => [(g, .row st (seqD σ (y.val σ))), (d, .own g st (lenD (y.val σ)))])
  | .slc d x lo hi _ => (match x.val σ with
    | .sl a es => [(d, .sl a ((es.take (boundD σ hi es.length).toNat).drop (boundD σ lo 0).toNat))]
    | .own g s n => [(d, .own g s (boundD σ hi n).toNat)]
    | _ => [(d, .nul)])
  | .slcs d x lo hi => (match x.val σ with
    | .v (.string b) => [(d, .v (.string (b.extract (boundD σ lo 0).toNat (boundD σ hi b.size).toNat)))]
    | _ => [])
  | .idx d x i => (match x.val σ with
    | .v (.string b) => [(d, .v (.int .u8 ((b.data.getD (intD σ i).toNat 0).toNat : Int)))]
    | _ => [])
  | .ida d x i _ st n => (match x.val σ with
    | .agg cs => [(d, D.getC cs ((intD σ i).toNat * st) n)]
    | _ => [])
  | .mks d g x st _ e => [(g, .row st (List.replicate (intD σ x).toNat e)), (d, .own g st (intD σ x).toNat)]
  | .ifc d t x => [(d, .ifc t (x.val σ))]
  | .mkf d f xs => [(d, .fn f (xs.map (Opd.val σ)))]
  | .nilc d s => [(d, σ s)]
  | _ => []

/-- A name that is free. -/
def freeN (σ : Env) (g : Nat) : Prop := nb ≤ g ∧ σ g = .free

def In.ok (σ : Env) : In → Prop
  | .mov _ _ => True
  | .pick _ c _ _ => (match c.val σ with
    | .v (.bool _) => True
    | _ => False)
  | .bin _ op x y => binOk op (x.val σ) (y.val σ)
  | .beq _ _ x y => (match x.val σ, y.val σ with
    | .v (.bool _), .v (.bool _) => True
    | _, _ => False)
  | .eqs _ _ ks x y => (match x.val σ, y.val σ with
    | .agg xs, .agg ys => eqOk ks xs ys
    | _, _ => False)
  | .mm _ _ x y => (match x.val σ, y.val σ with
    | .v (.int k _), .v (.int k' _) => k = k'
    | _, _ => False)
  | .un _ op x => (match op, x.val σ with
    | .not, .v (.bool _) => True
    | .neg, .v (.int _ _) => True
    | _, _ => False)
  | .cvt _ _ x => intOk σ x
  | .alloc _ g _ => freeN σ g
  | .box _ g x n => freeN σ g ∧ D.asCok (x.val σ) n
  | .build _ zs ps => fillOk σ ps zs
  | .bsl _ _ n es ps => elemsOk σ n ps es ∧ D.purL (elemsD σ n ps es) = true
  | .bslx _ g _ n es ps => freeN σ g ∧ elemsOk σ n ps es
  | .fad _ s _ => ptrMv σ s
  | .iad _ s i st => (match σ s with
    | .sl st' es => st' = st ∧ intOk σ i ∧ 0 ≤ intD σ i ∧ intD σ i < es.length
    | .own _ st' n => st' = st ∧ intOk σ i ∧ 0 ≤ intD σ i ∧ intD σ i < n
    | _ => False)
  | .iaa _ s i m _ => intOk σ i ∧ 0 ≤ intD σ i ∧ intD σ i < m ∧ ptrMv σ s
  | .lod _ s n => ptrOk σ s ∧ D.getCok (ptrC σ s) (ptrO σ s) n
  | .sto s x n => ptrOk σ s ∧ notPtr (σ s) ∧ D.asCok (x.val σ) n ∧ ptrO σ s + n.getD 1 ≤ (ptrC σ s).length
  | .fld _ x o n => (match x.val σ with
    | .agg cs => D.getCok cs o n
    | _ => False)
  | .ext _ s i => (match σ s with
    | .tup ps => i < ps.length
    | _ => False)
  | .len _ x => lenOk (x.val σ)
  | .lens _ x => (match x.val σ with
    | .v (.string _) => True
    | _ => False)
  | .app _ g x y st by_ => freeN σ g ∧ isSl (x.val σ) ∧ seqOk σ st (x.val σ) ∧ seqOk σ st (y.val σ) ∧ (lenD (x.val σ) + lenD (y.val σ)) * by_ ≤ 1099511627776 ∧ lenD (x.val σ) + lenD (y.val σ) ≤ 1099511627776
  | .slc _ x lo hi st => boundOk σ lo ∧ boundOk σ hi ∧ (match x.val σ with
    | .sl a es => (a = st ∨ es = []) ∧ 0 ≤ boundD σ lo 0 ∧ boundD σ lo 0 ≤ boundD σ hi es.length ∧ boundD σ hi es.length ≤ es.length
    | .own _ _ n => boundD σ lo 0 = 0 ∧ 0 ≤ boundD σ hi n ∧ boundD σ hi n ≤ n
    | .nul => boundD σ lo 0 = 0 ∧ boundD σ hi 0 = 0
    | _ => False)
  | .slcs _ x lo hi => (match x.val σ with
    | .v (.string b) => boundOk σ lo ∧ boundOk σ hi ∧ 0 ≤ boundD σ lo 0 ∧ boundD σ lo 0 ≤ boundD σ hi b.size ∧ boundD σ hi b.size ≤ b.size
    | _ => False)
  | .idx _ x i => (match x.val σ with
    | .v (.string b) => intOk σ i ∧ 0 ≤ intD σ i ∧ intD σ i < b.size
    | _ => False)
  | .ida _ x i m st n => intOk σ i ∧ 0 ≤ intD σ i ∧ intD σ i < m ∧ (match x.val σ with
    | .agg cs => D.getCok cs ((intD σ i).toNat * st) n
    | _ => False)
  | .mks _ g x _ by_ _ => freeN σ g ∧ intOk σ x ∧ 0 ≤ intD σ x ∧ intD σ x ≤ 1073741824 ∧ by_ * (intD σ x).toNat ≤ 1099511627776
  | .ifc _ _ _ => True
  | .mkf _ _ _ => True
  | .nilc _ s => (match σ s with
    | .ref _ _ => True
    | .eref _ _ _ _ => True
    | .ptr _ => True
    | .ifc _ _ => True
    | .fn _ _ => True
    | _ => False)
  | _ => False

def optRd : Option Opd → List Nat
  | some x => x.rd
  | none => []

/-- What an instruction reads and writes. -/
def In.ent (σ : Env) : In → Ent
  | .mov d x => ⟨x.rd, [d]⟩
  | .pick d c a b => ⟨c.rd ++ a.rd ++ b.rd, [d]⟩
  | .bin d _ x y => ⟨x.rd ++ y.rd, [d]⟩
  | .beq d _ x y => ⟨x.rd ++ y.rd, [d]⟩
  | .eqs d _ _ x y => ⟨x.rd ++ y.rd, [d]⟩
  | .mm d _ x y => ⟨x.rd ++ y.rd, [d]⟩
  | .un d _ x => ⟨x.rd, [d]⟩
  | .cvt d _ x => ⟨x.rd, [d]⟩
  | .alloc d g _ => ⟨[g], [g, d]⟩
  | .box d g x _ => ⟨g :: x.rd, [g, d]⟩
  | .build d _ ps => ⟨ps.flatMap fun p => p.2.2.rd, [d]⟩
  | .bsl d _ _ _ ps => ⟨ps.flatMap fun p => p.2.rd, [d]⟩
  | .bslx d g _ _ _ ps => ⟨g :: ps.flatMap fun p => p.2.rd, [g, d]⟩
  | .fad d s _ => ⟨[s], [d]⟩
  | .iad d s i _ => ⟨s :: i.rd, [d]⟩
  | .iaa d s i _ _ => ⟨s :: i.rd, [d]⟩
  | .lod d s _ => ⟨s :: ptrRoot σ s, [d]⟩
  | .sto s x _ => ⟨s :: (ptrRoot σ s ++ x.rd), ptrRoot σ s⟩
  | .fld d x _ _ => ⟨x.rd, [d]⟩
  | .ext d s _ => ⟨[s], [d]⟩
  | .len d x => ⟨x.rd, [d]⟩
  | .lens d x => ⟨x.rd, [d]⟩
  | .app d g x y _ _ => ⟨g :: (x.rd ++ y.rd ++ seqRoot (x.val σ) ++ seqRoot (y.val σ)), seqRoot (x.val σ) ++ [g, d]⟩
  | .slc d x lo hi _ => ⟨x.rd ++ optRd lo ++ optRd hi, [d]⟩
  | .slcs d x lo hi => ⟨x.rd ++ optRd lo ++ optRd hi, [d]⟩
  | .idx d x i => ⟨x.rd ++ i.rd, [d]⟩
  | .ida d x i _ _ _ => ⟨x.rd ++ i.rd, [d]⟩
  | .mks d g x _ _ _ => ⟨g :: x.rd, [g, d]⟩
  | .ifc d _ x => ⟨x.rd, [d]⟩
  | .mkf d _ xs => ⟨xs.flatMap Opd.rd, [d]⟩
  | .nilc d s => ⟨[s], [d]⟩
  | _ => ⟨[], []⟩

/-- A function that has a body and is entered. -/
def enters (P : Program) (f : FuncId) : Bool :=
  match P.funcs[f]? with
  | some fn => fn.body.isSome && fn.name != "runtime.NumGoroutine"
  | none => false
/-- The method of a type that lies on its own value. -/
def methOf (P : Program) (t : TypeId) (name : String) : Option FuncId :=
  match P.info? t with
  | some i => match i.methods.find? (·.name == name) with
    | some m => match m.path.toList, m.func with
      | [], some (f, false) => match P.underlying t with
        | some (.pointer _) | none => none
        | _ => if enters P f then some f else none
      | _, _ => none
    | none => none
  | none => none

end Go.Proofs.Ytimpofjjndbofaa
