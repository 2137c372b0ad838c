/-
  What a value of the program is as plain data, where its memory lies, and how memory may change beside it. Plain definitions and their laws; no condition. The slots and the named blocks of a call under way; how each kind of step changes them. Steps on plain data: a region whose operations have each a plain meaning, and of which those that touch one another are ordered, has the meaning of its operations in the order of the text. How each kind of step changes memory; how operations are read as instructions. Instructions on plain data: what each asks of the slots and names (ok), what it leaves in them (upd), what it reads and writes (ent); how operands are read; what a call does. Definitions alone. Types, cells and literals of the program: helpers of the instructions. No condition.
-/
import Derived.Calls
import Derived.RangeFuncRecord
import Derived.LoopNIn
import Derived.OrdersIn
import Derived.OwnWalkIn
import Derived.Orders
import Derived.Below
import Derived.KernelRfl
import Derived.Laws.AppendOwn
import Derived.Laws.Alloc2
import Derived.Laws.MakeOwn
import Derived.Laws.NewBlocks
import Derived.Laws.StructEq
import Derived.Laws.Tables
import Derived.Laws.CopyRow
namespace Go.Proofs.Ytclkehekhdfnnaa
section
open Go.RowKit
inductive D where
 | any
 | v (x : Value)
 | sl (s : Nat) (es : List D)
 | nul
 | agg (cs : List D)
 | tup (ps : List D)
 | ifc (t : TypeId) (d : D)
 | fn (f : FuncId) (caps : List D)
 | bnd (t : TypeId) (name : String) (d : D)
 | mv (f : FuncId) (d : D)
 | ptr (cs : List D)
 | ref (g o : Nat)
 | own (g s n : Nat)
 | owo (g s o n : Nat)
 | eref (g s i o : Nat)
 | obj (cs : List D)
 | row (s : Nat) (es : List D)
 | free
 | gho (l : Nat) (L : List D) (stop k : Nat)
 | kow (κ s n : Nat)
 | fam (St : Nat → World → (Nat → Nat → Prop) → (Nat → Option (Option Nat)) → (Nat → Prop) → Prop)
namespace D
def cells : D → List D
 | agg cs=>cs
 | d=>[d]
def flat (es : List D) : List D:=es.flatMap cells
def isBlk : D → Bool
 | obj _=>true
 | row _ _=>true
 | _=>false
end D
abbrev nb : Nat:=1000000
abbrev Cells:=Nat → Nat → Prop
abbrev Names:=Nat → Option (Option Nat)
def noNames : Names:=fun _=>none
inductive Fz (w : World) (F : Cells) : Names → D → Value → Prop where
 | any (m : Names) (x : Value) : Fz w F m .any x
 | v (m : Names) (x : Value) : Fz w F m (.v x) x
 | sl0 (m : Names) (s : Nat) (a : Option Addr) (cap : Nat) : Fz w F m (.sl s []) (.slice a 0 cap)
 | sl (m : Names) (s : Nat) (es : List D) (b off cap : Nat) (u : Nat → Value) (hs : 0 < s) (hle : es.length ≤ cap) (hlen : ∀ (e : D),e ∈ es → e.cells.length = s)
   (hu : ∀ k,k < es.length * s → w.cell? ⟨b,off + k,none⟩ = some (u k) ∧ F b (off + k) ∧ (u k).oneCell' = true)
   (hr : ∀ (k : Nat) (d : D),(D.flat es)[k]? = some d → Fz w F noNames d (u k)) : Fz w F m (.sl s es) (.slice (some ⟨b,off,none⟩) es.length cap)
 | nul (m : Names) (a : Option Addr) : Fz w F m .nul (.slice a 0 0)
 | agg (m : Names) (cs : List D) (us : List Value) (hl : us.length = cs.length) (h1 : ∀ (u : Value),u ∈ us → u.oneCell' = true) (hr : ∀ (i : Nat) (d : D) (u : Value),cs[i]? = some d → us[i]? = some u → Fz w F m d u) : Fz w F m (.agg cs) (.agg us.toArray)
 | tup (m : Names) (cs : List D) (us : List Value) (hl : us.length = cs.length) (hr : ∀ (i : Nat) (d : D) (u : Value),cs[i]? = some d → us[i]? = some u → Fz w F m d u) : Fz w F m (.tup cs) (.tuple us.toArray)
 | ifc (m : Names) (t : TypeId) (d : D) (x : Value) (h : Fz w F m d x) : Fz w F m (.ifc t d) (.iface t x)
 | bnd (m : Names) (t : TypeId) (name : String) (d : D) (x : Value) (h : Fz w F m d x) : Fz w F m (.bnd t name d) (.func (.method name) #[.iface t x] #[])
 | mv (m : Names) (f : FuncId) (d : D) (x : Value) (h : Fz w F m d x) : Fz w F m (.mv f d) (.func (.func f) #[x] #[])
 | fn (m : Names) (f : FuncId) (cs : List D) (us : List Value) (hl : us.length = cs.length) (hr : ∀ (i : Nat) (d : D) (u : Value),cs[i]? = some d → us[i]? = some u → Fz w F m d u) : Fz w F m (.fn f cs) (.func (.func f) #[] us.toArray)
 | ptr (m : Names) (cs : List D) (b off : Nat) (u : Nat → Value) (hu : ∀ k,k < cs.length → w.cell? ⟨b,off + k,none⟩ = some (u k) ∧ F b (off + k) ∧ (u k).oneCell' = true)
   (hr : ∀ (k : Nat) (d : D),cs[k]? = some d → Fz w F noNames d (u k)) : Fz w F m (.ptr cs) (.pointer (some ⟨b,off,none⟩))
 | ref (m : Names) (g o b : Nat) (hg : m g = some (some b)) : Fz w F m (.ref g o) (.pointer (some ⟨b,o,none⟩))
 | own (m : Names) (g s n b cap : Nat) (cur : Array Value) (T : TypeId) (hg : m g = some (some b)) (hs : 0 < s) (hle : n ≤ cap) (hb : w.heap[b]? = some (.cells cur T (0,0))) (hcap : cap * s ≤ cur.size) :
   Fz w F m (.own g s n) (.slice (some ⟨b,0,none⟩) n cap)
 | own0 (m : Names) (g s : Nat) (a : Option Addr) (hg : m g = some none) : Fz w F m (.own g s 0) (.slice a 0 0)
 | owo (m : Names) (g s o n b cap : Nat) (cur : Array Value) (T : TypeId) (hg : m g = some (some b)) (hs : 0 < s) (hle : n ≤ cap) (hb : w.heap[b]? = some (.cells cur T (0,0))) (hcap : (o + cap) * s ≤ cur.size) :
   Fz w F m (.owo g s o n) (.slice (some ⟨b,o * s,none⟩) n cap)
 | owo0 (m : Names) (g s o : Nat) (a : Option Addr) (cap : Nat) (p : Option Nat) (hg : m g = some p) : Fz w F m (.owo g s o 0) (.slice a 0 cap)
 | eref (m : Names) (g s i o b : Nat) (hg : m g = some (some b)) : Fz w F m (.eref g s i o) (.pointer (some ⟨b,i * s + o,none⟩))
 | gho (m : Names) (l : Nat) (L : List D) (stop k : Nat) (x : Value) : Fz w F m (.gho l L stop k) x
 | kow (m : Names) (κ s n b cap : Nat) (cur : Array Value) (T : TypeId) (hκ : κ < nb) (hg : m κ = some (some b)) (hs : 0 < s) (hle : n ≤ cap) (hb : w.heap[b]? = some (.cells cur T (0,0))) (hcap : cap * s ≤ cur.size) :
   Fz w F m (.kow κ s n) (.slice (some ⟨b,0,none⟩) n cap)
abbrev Blocks:=Nat → Prop
def noBlocks : Blocks:=fun _=>False
structure Chg (w : World) (F : Cells) (T : Blocks) (w' : World) (F' : Cells) : Prop where
 os : w'.os = w.os
 tape : w'.tape = w.tape
 output : w'.output = w.output
 size : w.heap.size ≤ w'.heap.size
 block : ∀ b,b < w.heap.size → ¬ T b → w'.heap[b]? = w.heap[b]?
 shape : ∀ (b : Nat) (cur : Array Value) (U : TypeId) (z : Nat × Nat),w.heap[b]? = some (Obj.cells cur U z) → ∃ cur' : Array Value,w'.heap[b]? = some (Obj.cells cur' U z) ∧ cur'.size = cur.size
 keep : ∀ b o,F b o → F' b o ∧ w'.cell? ⟨b,o,none⟩ = w.cell? ⟨b,o,none⟩
 back : ∀ b o,F' b o → b < w.heap.size → ¬ T b → F b o
 drawn : w.drawn ≤ w'.drawn:=by exact Nat.le_refl _
theorem Chg.refl (w : World) (F : Cells) (T : Blocks) : Chg w F T w F:=⟨rfl,rfl,rfl,Nat.le_refl _,fun _ _ _=>rfl,fun _ cur _ _ h=>⟨cur,h,rfl⟩,fun _ _ h=>⟨h,rfl⟩,fun _ _ h _ _=>h,Nat.le_refl _⟩
theorem Chg.trans {w w1 w2 : World} {F F1 F2 : Cells} {T T1 : Blocks} (h : Chg w F T w1 F1) (h1 : Chg w1 F1 T1 w2 F2) (hT : ∀ k,T1 k → k < w.heap.size → T k) : Chg w F T w2 F2 where
 os:=h1.os.trans h.os
 tape:=h1.tape.trans h.tape
 output:=h1.output.trans h.output
 size:=Nat.le_trans h.size h1.size
 block b hb hn:=(h1.block b (Nat.lt_of_lt_of_le hb h.size) (fun ht=>hn (hT b ht hb))).trans (h.block b hb hn)
 shape b cur U z hb:=by
  obtain ⟨c1,hb1,hs1⟩:=h.shape b cur U z hb
  obtain ⟨c2,hb2,hs2⟩:=h1.shape b c1 U z hb1
  exact ⟨c2,hb2,hs2.trans hs1⟩
 keep b o hf:=⟨(h1.keep b o (h.keep b o hf).1).1,(h1.keep b o (h.keep b o hf).1).2.trans (h.keep b o hf).2⟩
 back b o hf hb hn:=h.back b o (h1.back b o hf (Nat.lt_of_lt_of_le hb h.size) (fun ht=>hn (hT b ht hb))) hb hn
 drawn:=Nat.le_trans h.drawn h1.drawn
theorem Chg.mono {w w' : World} {F F' : Cells} {T T' : Blocks} (h : Chg w F T w' F') (hT : ∀ k,T k → T' k) : Chg w F T' w' F':=
 ⟨h.os,h.tape,h.output,h.size,fun b hb hn=>h.block b hb (fun ht=>hn (hT b ht)),h.shape,h.keep,fun b o hf hb hn=>h.back b o hf hb (fun ht=>hn (hT b ht)),h.drawn⟩
theorem Chg.drew {w w' : World} {F F' : Cells} {T : Blocks} (h : Chg w F T w' F') : Chg w F T w'.drew F':=
 ⟨h.os,h.tape,h.output,h.size,h.block,h.shape,h.keep,h.back,Nat.le_succ_of_le h.drawn⟩
theorem Fz.stable {w w' : World} {F F' : Cells} {T : Blocks} (c : Chg w F T w' F') {m : Names} {d : D} {x : Value} (h : Fz w F m d x) : ∀ {m' : Names},(∀ g p,m g = some p → m' g = some p) → Fz w' F' m' d x:=by
 induction h with
 | any m x=>intro m' _; exact .any m' x
 | v m x=>intro m' _; exact .v m' x
 | sl0 m s a cap=>intro m' _; exact .sl0 m' s a cap
 | sl m s es b off cap u hs hle hlen hu hr ih=>
  intro m' _
  exact .sl m' s es b off cap u hs hle hlen (fun k hk=>⟨(c.keep _ _ (hu k hk).2.1).2.trans (hu k hk).1,(c.keep _ _ (hu k hk).2.1).1,(hu k hk).2.2⟩) (fun k d hd=>ih k d hd (fun _ _ h=>h))
 | nul m a=>intro m' _; exact .nul m' a
 | agg m cs us hl h1 hr ih=>intro m' hm; exact .agg m' cs us hl h1 (fun i d u hd hu=>ih i d u hd hu hm)
 | tup m cs us hl hr ih=>intro m' hm; exact .tup m' cs us hl (fun i d u hd hu=>ih i d u hd hu hm)
 | ifc m t d x h ih=>intro m' hm; exact .ifc m' t d x (ih hm)
 | bnd m t name d x h ih=>intro m' hm; exact .bnd m' t name d x (ih hm)
 | mv m f d x h ih=>intro m' hm; exact .mv m' f d x (ih hm)
 | fn m f cs us hl hr ih=>intro m' hm; exact .fn m' f cs us hl (fun i d u hd hu=>ih i d u hd hu hm)
 | ptr m cs b off u hu hr ih=>
  intro m' _
  exact .ptr m' cs b off u (fun k hk=>⟨(c.keep _ _ (hu k hk).2.1).2.trans (hu k hk).1,(c.keep _ _ (hu k hk).2.1).1,(hu k hk).2.2⟩) (fun k d hd=>ih k d hd (fun _ _ h=>h))
 | ref m g o b hg=>intro m' hm; exact .ref m' g o b (hm g _ hg)
 | own m g s n b cap cur U hg hs hle hb hcap=>
  intro m' hm
  obtain ⟨cur',hb',hsz⟩:=c.shape b cur U (0,0) hb
  exact .own m' g s n b cap cur' U (hm g _ hg) hs hle hb' (by rw [hsz]; exact hcap)
 | own0 m g s a hg=>intro m' hm; exact .own0 m' g s a (hm g _ hg)
 | owo m g s o n b cap cur U hg hs hle hb hcap=>
  intro m' hm
  obtain ⟨cur',hb',hsz⟩:=c.shape b cur U (0,0) hb
  exact .owo m' g s o n b cap cur' U (hm g _ hg) hs hle hb' (by rw [hsz]; exact hcap)
 | owo0 m g s o a cap p hg=>intro m' hm; exact .owo0 m' g s o a cap p (hm g _ hg)
 | eref m g s i o b hg=>intro m' hm; exact .eref m' g s i o b (hm g _ hg)
 | gho m l L e k x=>intro m' _; exact .gho m' l L e k x
 | kow m κ s n b cap cur U hκ hg hs hle hb hcap=>
  intro m' hm
  obtain ⟨cur',hb',hsz⟩:=c.shape b cur U (0,0) hb
  exact .kow m' κ s n b cap cur' U hκ (hm κ _ hg) hs hle hb' (by rw [hsz]; exact hcap)
theorem Fz.names {w : World} {F : Cells} {m m' : Names} {d : D} {x : Value} (h : Fz w F m d x) (hm : ∀ g p,m g = some p → m' g = some p) : Fz w F m' d x:=h.stable (Chg.refl w F noBlocks) hm
theorem Fz.still {w w' : World} {F F' : Cells} {T : Blocks} (c : Chg w F T w' F') {m : Names} {d : D} {x : Value} (h : Fz w F m d x) : Fz w' F' m d x:=h.stable c (fun _ _ h=>h)
mutual
def D.pur : D → Bool
 | .any=>true
 | .v _=>true
 | .sl _ _=>true
 | .nul=>true
 | .agg cs=>D.purL cs
 | .tup cs=>D.purL cs
 | .ifc _ d=>D.pur d
 | .bnd _ _ d=>D.pur d
 | .mv _ d=>D.pur d
 | .fn _ cs=>D.purL cs
 | .ptr _=>true
 | _=>false
def D.purL : List D → Bool
 | []=>true
 | d :: l=>D.pur d && D.purL l
end
theorem D.purL_iff : ∀ {l : List D},D.purL l = true ↔ ∀ d,d ∈ l → d.pur = true
 | []=>by simp [D.purL]
 | d :: l=>by rw [D.purL,Bool.and_eq_true,D.purL_iff (l:=l)]; simp
theorem Fz.pure {w : World} {F : Cells} {m : Names} {d : D} {x : Value} (h : Fz w F m d x) : d.pur = true → ∀ m',Fz w F m' d x:=by
 induction h with
 | any m x=>intro _ m'; exact .any m' x
 | v m x=>intro _ m'; exact .v m' x
 | sl0 m s a cap=>intro _ m'; exact .sl0 m' s a cap
 | sl m s es b off cap u hs hle hlen hu hr ih=>intro _ m'; exact .sl m' s es b off cap u hs hle hlen hu hr
 | nul m a=>intro _ m'; exact .nul m' a
 | agg m cs us hl h1 hr ih=>intro hp m'; exact .agg m' cs us hl h1 (fun i d u hd hu=>ih i d u hd hu (D.purL_iff.1 hp d (List.mem_of_getElem? hd)) m')
 | tup m cs us hl hr ih=>intro hp m'; exact .tup m' cs us hl (fun i d u hd hu=>ih i d u hd hu (D.purL_iff.1 hp d (List.mem_of_getElem? hd)) m')
 | ifc m t d x h ih=>intro hp m'; exact .ifc m' t d x (ih hp m')
 | bnd m t name d x h ih=>intro hp m'; exact .bnd m' t name d x (ih hp m')
 | mv m f d x h ih=>intro hp m'; exact .mv m' f d x (ih hp m')
 | fn m f cs us hl hr ih=>intro hp m'; exact .fn m' f cs us hl (fun i d u hd hu=>ih i d u hd hu (D.purL_iff.1 hp d (List.mem_of_getElem? hd)) m')
 | ptr m cs b off u hu hr ih=>intro _ m'; exact .ptr m' cs b off u hu hr
 | ref m g o b hg=>intro hp; cases hp
 | own m g s n b cap cur U hg hs hle hb hcap=>intro hp; cases hp
 | own0 m g s a hg=>intro hp; cases hp
 | owo m g s o n b cap cur U hg hs hle hb hcap=>intro hp; cases hp
 | owo0 m g s o a cap p hg=>intro hp; cases hp
 | eref m g s i o b hg=>intro hp; cases hp
 | gho m l L e k x=>intro hp; cases hp
 | kow m κ s n b cap cur U hκ hg hs hle hb hcap=>intro hp; cases hp
def nameOf (L : List Nat) (g : Nat) : Option Nat:=if g < nb then none else L[g - nb]?
mutual
def D.ren (L : List Nat) : D → D
 | .any=>.any
 | .v x=>.v x
 | .sl s es=>.sl s es
 | .nul=>.nul
 | .agg cs=>.agg (D.renL L cs)
 | .tup cs=>.tup (D.renL L cs)
 | .ifc t d=>.ifc t (D.ren L d)
 | .bnd t name d=>.bnd t name (D.ren L d)
 | .mv f d=>.mv f (D.ren L d)
 | .fn f cs=>.fn f (D.renL L cs)
 | .ptr cs=>.ptr cs
 | .ref g o=>match nameOf L g with
  | some g'=>.ref g' o
  | none=>.free
 | .own g s n=>match nameOf L g with
  | some g'=>.own g' s n
  | none=>.free
 | .owo g s o n=>match nameOf L g with
  | some g'=>.owo g' s o n
  | none=>.free
 | .eref g s i o=>match nameOf L g with
  | some g'=>.eref g' s i o
  | none=>.free
 | .obj cs=>.obj (D.renL L cs)
 | .row s es=>.row s (D.renL L es)
 | .free=>.free
 | .gho l L e k=>.gho l L e k
 | .kow _ _ _=>.free
 | .fam St=>.fam St
def D.renL (L : List Nat) : List D → List D
 | []=>[]
 | d :: l=>D.ren L d :: D.renL L l
end
theorem D.renL_map (L : List Nat) : ∀ l : List D,D.renL L l = l.map (D.ren L)
 | []=>rfl
 | d :: l=>by rw [D.renL,D.renL_map L l]; rfl
theorem Fz.ren {w : World} {F : Cells} {m : Names} {d : D} {x : Value} (h : Fz w F m d x) : ∀ {m' : Names} {L : List Nat},(∀ g p,m g = some p → ∃ g',nameOf L g = some g' ∧ m' g' = some p) → Fz w F m' (d.ren L) x:=by
 have cs_at : ∀ {L : List Nat} {cs : List D} {i : Nat} {d : D},(D.renL L cs)[i]? = some d → ∃ e,cs[i]? = some e ∧ d = e.ren L:=by
  intro L cs i d hd
  rw [D.renL_map,List.getElem?_map] at hd
  cases hc : cs[i]? with
  | none=>rw [hc] at hd; cases hd
  | some e=>rw [hc] at hd; exact ⟨e,rfl,by simpa using hd.symm⟩
 induction h with
 | any m x=>intro m' L _; exact .any m' x
 | v m x=>intro m' L _; exact .v m' x
 | sl0 m s a cap=>intro m' L _; exact .sl0 m' s a cap
 | sl m s es b off cap u hs hle hlen hu hr ih=>intro m' L _; exact .sl m' s es b off cap u hs hle hlen hu hr
 | nul m a=>intro m' L _; exact .nul m' a
 | agg m cs us hl h1 hr ih=>
  intro m' L hm
  rw [D.ren]
  exact .agg m' _ us (by rw [D.renL_map,List.length_map]; exact hl) h1 (fun i d u hd hu=>by obtain ⟨e,he,rfl⟩:=cs_at hd; exact ih i e u he hu hm)
 | tup m cs us hl hr ih=>
  intro m' L hm
  rw [D.ren]
  exact .tup m' _ us (by rw [D.renL_map,List.length_map]; exact hl) (fun i d u hd hu=>by obtain ⟨e,he,rfl⟩:=cs_at hd; exact ih i e u he hu hm)
 | ifc m t d x h ih=>intro m' L hm; exact .ifc m' t _ x (ih hm)
 | bnd m t name d x h ih=>intro m' L hm; exact .bnd m' t name _ x (ih hm)
 | mv m f d x h ih=>intro m' L hm; exact .mv m' f _ x (ih hm)
 | fn m f cs us hl hr ih=>
  intro m' L hm
  rw [D.ren]
  exact .fn m' f _ us (by rw [D.renL_map,List.length_map]; exact hl) (fun i d u hd hu=>by obtain ⟨e,he,rfl⟩:=cs_at hd; exact ih i e u he hu hm)
 | ptr m cs b off u hu hr ih=>intro m' L _; exact .ptr m' cs b off u hu hr
 | ref m g o b hg=>
  intro m' L hm
  obtain ⟨g',h1,h2⟩:=hm g _ hg
  rw [D.ren,h1]
  exact .ref m' g' o b h2
 | own m g s n b cap cur U hg hs hle hb hcap=>
  intro m' L hm
  obtain ⟨g',h1,h2⟩:=hm g _ hg
  rw [D.ren,h1]
  exact .own m' g' s n b cap cur U h2 hs hle hb hcap
 | own0 m g s a hg=>
  intro m' L hm
  obtain ⟨g',h1,h2⟩:=hm g _ hg
  rw [D.ren,h1]
  exact .own0 m' g' s a h2
 | owo m g s o n b cap cur U hg hs hle hb hcap=>
  intro m' L hm
  obtain ⟨g',h1,h2⟩:=hm g _ hg
  rw [D.ren,h1]
  exact .owo m' g' s o n b cap cur U h2 hs hle hb hcap
 | owo0 m g s o a cap p hg=>
  intro m' L hm
  obtain ⟨g',h1,h2⟩:=hm g _ hg
  rw [D.ren,h1]
  exact .owo0 m' g' s o a cap p h2
 | eref m g s i o b hg=>
  intro m' L hm
  obtain ⟨g',h1,h2⟩:=hm g _ hg
  rw [D.ren,h1]
  exact .eref m' g' s i o b h2
 | gho m l L e k x=>intro m' L' _; exact .gho m' l L e k x
 | kow m κ s n b cap cur U hκ hg hs hle hb hcap=>
  intro m' L' hm
  obtain ⟨g',h1,_⟩:=hm κ _ hg
  unfold nameOf at h1
  rw [if_pos hκ] at h1
  cases h1
theorem Fz.unren {w : World} {F : Cells} {m : Names} {d' : D} {x : Value} (h : Fz w F m d' x) : ∀ {m' : Names} {L : List Nat},(∀ g g',nameOf L g = some g' → m' g = m g') → ∀ {d : D},d.ren L = d' → Fz w F m' d x:=by
 have cs_at : ∀ {L : List Nat} {cs : List D} {i : Nat} {d : D},cs[i]? = some d → (D.renL L cs)[i]? = some (d.ren L):=by
  intro L cs i d hd
  rw [D.renL_map,List.getElem?_map,hd]
  rfl
 have nm : ∀ {L : List Nat} {g : Nat} {f : Nat → D} {e : D},(match nameOf L g with
   | some g'=>f g'
   | none=>.free) = e → e ≠ .free → ∃ g',nameOf L g = some g' ∧ f g' = e:=by
  intro L g f e he hne
  cases hg : nameOf L g with
  | none=>rw [hg] at he; exact absurd he.symm hne
  | some g'=>rw [hg] at he; exact ⟨g',rfl,he⟩
 induction h with
 | any m x=>intro m' L _ d he; cases d <;> first | exact .any m' x | (rw [D.ren] at he; first | (cases he; done) | (obtain ⟨_,_,h⟩:=nm he (by intro h; cases h); cases h))
 | v m x=>intro m' L _ d he; cases d <;> rw [D.ren] at he <;> first | (cases he; exact .v m' x) | (cases he; done) | (obtain ⟨_,_,h⟩:=nm he (by intro h; cases h); cases h)
 | sl0 m s a cap=>intro m' L _ d he; cases d <;> rw [D.ren] at he <;> first | (cases he; exact .sl0 m' s a cap) | (cases he; done) | (obtain ⟨_,_,h⟩:=nm he (by intro h; cases h); cases h)
 | sl m s es b off cap u hs hle hlen hu hr ih=>intro m' L _ d he; cases d <;> rw [D.ren] at he <;> first | (cases he; exact .sl m' s es b off cap u hs hle hlen hu hr) | (cases he; done) | (obtain ⟨_,_,h⟩:=nm he (by intro h; cases h); cases h)
 | nul m a=>intro m' L _ d he; cases d <;> first | exact .nul m' a | (rw [D.ren] at he; first | (cases he; done) | (obtain ⟨_,_,h⟩:=nm he (by intro h; cases h); cases h))
 | agg m cs us hl h1 hr ih=>
  intro m' L hm d he
  cases d with
  | agg cs0=>
   rw [D.ren] at he
   obtain rfl : D.renL L cs0 = cs:=by injection he
   exact .agg m' cs0 us (by rw [hl,D.renL_map,List.length_map]) h1 (fun i d u hd hu=>ih i _ u (cs_at hd) hu hm rfl)
  | _=>rw [D.ren] at he; first | (cases he; done) | (obtain ⟨_,_,h⟩:=nm he (by intro h; cases h); cases h)
 | tup m cs us hl hr ih=>
  intro m' L hm d he
  cases d with
  | tup cs0=>
   rw [D.ren] at he
   obtain rfl : D.renL L cs0 = cs:=by injection he
   exact .tup m' cs0 us (by rw [hl,D.renL_map,List.length_map]) (fun i d u hd hu=>ih i _ u (cs_at hd) hu hm rfl)
  | _=>rw [D.ren] at he; first | (cases he; done) | (obtain ⟨_,_,h⟩:=nm he (by intro h; cases h); cases h)
 | ifc m t d0 x h ih=>
  intro m' L hm d he
  cases d with
  | ifc t' d1=>
   rw [D.ren] at he
   obtain ⟨rfl,h1⟩ : t' = t ∧ d1.ren L = d0:=by injection he with h1 h2; exact ⟨h1,h2⟩
   exact .ifc m' t' d1 x (ih hm h1)
  | _=>rw [D.ren] at he; first | (cases he; done) | (obtain ⟨_,_,h⟩:=nm he (by intro h; cases h); cases h)
 | bnd m t name d0 x h ih=>
  intro m' L hm d he
  cases d with
  | bnd t' name' d1=>
   rw [D.ren] at he
   obtain ⟨rfl,rfl,h1⟩ : t' = t ∧ name' = name ∧ d1.ren L = d0:=by injection he with h1 h2 h3; exact ⟨h1,h2,h3⟩
   exact .bnd m' t' name' d1 x (ih hm h1)
  | _=>rw [D.ren] at he; first | (cases he; done) | (obtain ⟨_,_,h⟩:=nm he (by intro h; cases h); cases h)
 | mv m f d0 x h ih=>
  intro m' L hm d he
  cases d with
  | mv f' d1=>
   rw [D.ren] at he
   obtain ⟨rfl,h1⟩ : f' = f ∧ d1.ren L = d0:=by injection he with h1 h2; exact ⟨h1,h2⟩
   exact .mv m' f' d1 x (ih hm h1)
  | _=>rw [D.ren] at he; first | (cases he; done) | (obtain ⟨_,_,h⟩:=nm he (by intro h; cases h); cases h)
 | fn m f cs us hl hr ih=>
  intro m' L hm d he
  cases d with
  | fn f' cs0=>
   rw [D.ren] at he
   obtain ⟨rfl,rfl⟩ : f' = f ∧ D.renL L cs0 = cs:=by injection he with h1 h2; exact ⟨h1,h2⟩
   exact .fn m' f' cs0 us (by rw [hl,D.renL_map,List.length_map]) (fun i d u hd hu=>ih i _ u (cs_at hd) hu hm rfl)
  | _=>rw [D.ren] at he; first | (cases he; done) | (obtain ⟨_,_,h⟩:=nm he (by intro h; cases h); cases h)
 | ptr m cs b off u hu hr ih=>intro m' L _ d he; cases d <;> rw [D.ren] at he <;> first | (cases he; exact .ptr m' cs b off u hu hr) | (cases he; done) | (obtain ⟨_,_,h⟩:=nm he (by intro h; cases h); cases h)
 | ref m g o b hg=>
  intro m' L hm d he
  cases d with
  | ref g0 o0=>
   rw [D.ren] at he
   obtain ⟨g',h1,h2⟩:=nm he (by intro h; cases h)
   obtain ⟨rfl,rfl⟩ : g' = g ∧ o0 = o:=by injection h2 with h2 h3; exact ⟨h2,h3⟩
   exact .ref m' g0 o0 b ((hm g0 g' h1).trans hg)
  | _=>rw [D.ren] at he; first | (cases he; done) | (obtain ⟨_,_,h⟩:=nm he (by intro h; cases h); cases h)
 | own m g s n b cap cur U hg hs hle hb hcap=>
  intro m' L hm d he
  cases d with
  | own g0 s0 n0=>
   rw [D.ren] at he
   obtain ⟨g',h1,h2⟩:=nm he (by intro h; cases h)
   obtain ⟨rfl,rfl,rfl⟩ : g' = g ∧ s0 = s ∧ n0 = n:=by injection h2 with h2 h3 h4; exact ⟨h2,h3,h4⟩
   exact .own m' g0 s0 n0 b cap cur U ((hm g0 g' h1).trans hg) hs hle hb hcap
  | _=>rw [D.ren] at he; first | (cases he; done) | (obtain ⟨_,_,h⟩:=nm he (by intro h; cases h); cases h)
 | own0 m g s a hg=>
  intro m' L hm d he
  cases d with
  | own g0 s0 n0=>
   rw [D.ren] at he
   obtain ⟨g',h1,h2⟩:=nm he (by intro h; cases h)
   obtain ⟨rfl,rfl,rfl⟩ : g' = g ∧ s0 = s ∧ n0 = 0:=by injection h2 with h2 h3 h4; exact ⟨h2,h3,h4⟩
   exact .own0 m' g0 s0 a ((hm g0 g' h1).trans hg)
  | _=>rw [D.ren] at he; first | (cases he; done) | (obtain ⟨_,_,h⟩:=nm he (by intro h; cases h); cases h)
 | owo m g s o n b cap cur U hg hs hle hb hcap=>
  intro m' L hm d he
  cases d with
  | owo g0 s0 o0 n0=>
   rw [D.ren] at he
   obtain ⟨g',h1,h2⟩:=nm he (by intro h; cases h)
   obtain ⟨rfl,rfl,rfl,rfl⟩ : g' = g ∧ s0 = s ∧ o0 = o ∧ n0 = n:=by injection h2 with h2 h3 h4 h5; exact ⟨h2,h3,h4,h5⟩
   exact .owo m' g0 s0 o0 n0 b cap cur U ((hm g0 g' h1).trans hg) hs hle hb hcap
  | _=>rw [D.ren] at he; first | (cases he; done) | (obtain ⟨_,_,h⟩:=nm he (by intro h; cases h); cases h)
 | owo0 m g s o a cap p hg=>
  intro m' L hm d he
  cases d with
  | owo g0 s0 o0 n0=>
   rw [D.ren] at he
   obtain ⟨g',h1,h2⟩:=nm he (by intro h; cases h)
   obtain ⟨rfl,rfl,rfl,rfl⟩ : g' = g ∧ s0 = s ∧ o0 = o ∧ n0 = 0:=by injection h2 with h2 h3 h4 h5; exact ⟨h2,h3,h4,h5⟩
   exact .owo0 m' g0 s0 o0 a cap p ((hm g0 g' h1).trans hg)
  | _=>rw [D.ren] at he; first | (cases he; done) | (obtain ⟨_,_,h⟩:=nm he (by intro h; cases h); cases h)
 | eref m g s i o b hg=>
  intro m' L hm d he
  cases d with
  | eref g0 s0 i0 o0=>
   rw [D.ren] at he
   obtain ⟨g',h1,h2⟩:=nm he (by intro h; cases h)
   obtain ⟨rfl,rfl,rfl,rfl⟩ : g' = g ∧ s0 = s ∧ i0 = i ∧ o0 = o:=by injection h2 with h2 h3 h4 h5; exact ⟨h2,h3,h4,h5⟩
   exact .eref m' g0 s0 i0 o0 b ((hm g0 g' h1).trans hg)
  | _=>rw [D.ren] at he; first | (cases he; done) | (obtain ⟨_,_,h⟩:=nm he (by intro h; cases h); cases h)
 | gho m l L e k x=>intro m' L' _ d he; cases d <;> first | (rw [D.ren] at he; cases he; exact .gho m' l L e k x) | (rw [D.ren] at he; first | (cases he; done) | (obtain ⟨_,_,h⟩:=nm he (by intro h; cases h); cases h))
 | kow m κ s n b cap cur U hκ hg hs hle hb hcap=>intro m' L' _ d he; cases d <;> (rw [D.ren] at he; first | (cases he; done) | (obtain ⟨_,_,h⟩:=nm he (by intro h; cases h); cases h))
structure CellsOK (w : World) (F : Cells) (m : Names) (cs : List D) (us : List Value) : Prop where
 len : us.length = cs.length
 one : ∀ u,u ∈ us → u.oneCell' = true
 fz : ∀ (j : Nat) (d : D) (u : Value),cs[j]? = some d → us[j]? = some u → Fz w F m d u
theorem CellsOK.stable {w w' : World} {F F' : Cells} {T : Blocks} (c : Chg w F T w' F') {m m' : Names} {cs : List D} {us : List Value} (h : CellsOK w F m cs us) (hm : ∀ g p,m g = some p → m' g = some p) : CellsOK w' F' m' cs us:=
 ⟨h.len,h.one,fun j d u hd hu=>(h.fz j d u hd hu).stable c hm⟩
def Blk (w : World) (F : Cells) (m : Names) (g : Nat) : D → Prop
 | .obj cs=>∃ b cur T,m g = some (some b) ∧ w.heap[b]? = some (.cells cur T (0,0)) ∧ CellsOK w F m cs cur.toList ∧ ∀ o,¬ F b o
 | .row s es=>(es = [] ∧ m g = some none) ∨ ∃ b cur T,m g = some (some b) ∧ w.heap[b]? = some (.cells cur T (0,0)) ∧ 0 < s ∧ (∀ (e : D),e ∈ es → e.cells.length = s) ∧ es.length * s ≤ cur.size ∧ CellsOK w F m (D.flat es) (cur.toList.take (es.length * s)) ∧ ∀ o,¬ F b o
 | .free=>m g = none
 | .any=>True
 | _=>False
theorem Blk.stable {w w' : World} {F F' : Cells} {T : Blocks} (c : Chg w F T w' F') {m m' : Names} {g : Nat} {d : D} (h : Blk w F m g d) (hm : ∀ g p,m g = some p → m' g = some p) (hfree : d = .free → m' g = none) (hT : ∀ b,d.isBlk = true → m g = some (some b) → ¬ T b) : Blk w' F' m' g d:=by
 cases d with
 | obj cs=>
  obtain ⟨b,cur,U,hg,hb,hc,hF⟩:=h
  have hlt:=(Array.getElem?_eq_some_iff.1 hb).1
  exact ⟨b,cur,U,hm g _ hg,(c.block b hlt (hT b rfl hg)).trans hb,hc.stable c hm,fun o ho=>hF o (c.back b o ho hlt (hT b rfl hg))⟩
 | row s es=>
  rcases h with ⟨h1,h2⟩ | ⟨b,cur,U,hg,hb,hs,hl,hsz,hc,hF⟩
  ·exact .inl ⟨h1,hm g _ h2⟩
  ·have hlt:=(Array.getElem?_eq_some_iff.1 hb).1
   exact .inr ⟨b,cur,U,hm g _ hg,(c.block b hlt (hT b rfl hg)).trans hb,hs,hl,hsz,hc.stable c hm,fun o ho=>hF o (c.back b o ho hlt (hT b rfl hg))⟩
 | free=>exact hfree rfl
 | any=>trivial
 | _=>exact h.elim
theorem Blk.lt {w : World} {F : Cells} {m : Names} {g b : Nat} {d : D} (h : Blk w F m g d) (hd : d.isBlk = true) (hg : m g = some (some b)) : b < w.heap.size:=by
 cases d with
 | obj cs=>
  obtain ⟨b',cur,U,hg',hb,_⟩:=h
  obtain rfl : b = b':=by rw [hg] at hg'; simpa using hg'
  exact (Array.getElem?_eq_some_iff.1 hb).1
 | row s es=>
  rcases h with ⟨_,h2⟩ | ⟨b',cur,U,hg',hb,_⟩
  ·rw [hg] at h2; cases h2
  ·obtain rfl : b = b':=by rw [hg] at hg'; simpa using hg'
   exact (Array.getElem?_eq_some_iff.1 hb).1
 | _=>cases hd
end
section
open Go.RowKit
abbrev gh : Nat:=999999
def isRow : Obj → Bool
 | .cells ..=>true
 | _=>false
structure YC where
 P : Program
 l : Nat
 L : List D
 stop : Nat
 lo : Nat
 J : Nat → World → Cells → Names → Blocks → Prop
 lt : ∀ k w F m B,J k w F m B → lo ≤ w.heap.size ∧ ∀ b,B b → b < w.heap.size
 stable : ∀ k w F m m' B T w' F',J k w F m B → Chg w F T w' F' → (∀ b o,F' b o → b < w'.heap.size) → (∀ b,T b → ¬ B b ∧ lo ≤ b) → (∀ g,g < nb → m' g = m g) → J k w' F' m' B
 fam : ∀ St,L = [D.fam St] → J = St ∧ lo = 0
 ig : (∀ St,L ≠ [D.fam St]) → ∀ k w F m m' B,J k w F m B → J k w F m' B
 call : ∀ k w F m B ds (xs : List Value),J k w F m B → (∀ b o,F b o → b < w.heap.size) → k ≤ stop → L[k]? = some (.tup ds) → D.purL ds = true → xs.length = ds.length → (∀ (i : Nat) (d : D) (x : Value),ds[i]? = some d → xs[i]? = some x → Fz w F noNames d x) →
  ∃ f tmps assign body,(Instr.yield l xs.toArray).run P w = .ok (.round l f tmps assign body) w ∧ ∀ n,RoundIn Fence.wide n P l f tmps assign body w (fun e w'=>e = .returned (.bool (decide (k ≠ stop))) ∧
   ∃ F' B',Chg w F B w' F' ∧ (∀ b o,F' b o → b < w'.heap.size) ∧ J (k + 1) w' F' m B' ∧ ∀ b,B' b → B b ∨ w.heap.size ≤ b)
structure Ctx where
 n : Nat
 w0 : World
 F0 : Cells
 R0 : Blocks
 k : Nat
 m0 : Names
 Y : Option YC:=none
 kept : List (Nat × Obj):=[]
 dm : List Nat:=[]
 rnd : Option Nat:=none
def markOf (b : Nat) : Deferred:={ target:=.collected b,args:=#[] }
def Ctx.fen (G : Ctx) : Fence:={ Fence.wide with round:=G.rnd }
abbrev Env:=Nat → D
abbrev Upd:=List (Nat × D)
namespace Env
def set (σ : Env) (t : Nat) (d : D) : Env:=fun u=>if u = t then d else σ u
theorem set_same (σ : Env) (t : Nat) (d : D) : σ.set t d t = d:=by simp [set]
theorem set_ne (σ : Env) (t u : Nat) (d : D) (h : ¬ u = t) : σ.set t d u = σ u:=by simp [set,h]
def put : Upd → Env → Env
 | [],σ=>σ
 | p :: l,σ=>put l (σ.set p.1 p.2)
theorem put_out (l : Upd) : ∀ (σ : Env) (t : Nat),(∀ p,p ∈ l → p.1 ≠ t) → put l σ t = σ t:=by
 induction l with
 | nil=>intro σ t _; rfl
 | cons p l ih=>
  intro σ t h
  rw [put,ih _ _ (fun q hq=>h q (List.mem_cons_of_mem _ hq)),set_ne _ _ _ _ (fun e=>h p (List.mem_cons_self ..) e.symm)]
theorem put_same (l : Upd) : ∀ (σ τ : Env) (t : Nat),σ t = τ t → put l σ t = put l τ t:=by
 induction l with
 | nil=>intro σ τ t h; exact h
 | cons p l ih=>
  intro σ τ t h
  refine ih _ _ _ ?_
  by_cases e : t = p.1
  ·subst e; rw [set_same,set_same]
  ·rw [set_ne _ _ _ _ e,set_ne _ _ _ _ e,h]
theorem put_in (l : Upd) : ∀ (σ τ : Env) (t : Nat),(∃ p,p ∈ l ∧ p.1 = t) → put l σ t = put l τ t:=by
 induction l with
 | nil=>intro σ τ t h; obtain ⟨p,hp,_⟩:=h; cases hp
 | cons p l ih=>
  intro σ τ t h
  by_cases e : t = p.1
  ·subst e; exact put_same l _ _ _ (by rw [set_same,set_same])
  ·obtain ⟨q,hq,he⟩:=h
   refine ih _ _ _ ⟨q,?_,he⟩
   cases hq with
   | head=>exact absurd he.symm e
   | tail _ hq=>exact hq
theorem put_append (l m : Upd) : ∀ τ : Env,put (l ++ m) τ = put m (put l τ):=by
 induction l with
 | nil=>intro τ; rfl
 | cons p l ih=>intro τ; rw [List.cons_append,put,ih,put]
end Env
structure ExtB (G : Ctx) (σ : Env) (w : World) (F : Cells) (m : Names) (B : Blocks) : Prop where
 kept : ∀ p,p ∈ G.kept → w.heap[p.1]? = some p.2 ∧ isRow p.2 = false ∧ (∀ o,¬ F p.1 o) ∧ ¬ B p.1
 own : ∀ b,B b → G.R0 b ∨ G.w0.heap.size ≤ b
 no : G.Y = none → (∀ l L e k,σ gh ≠ .gho l L e k) ∧ ∀ b,¬ B b
 yes : ∀ Y,G.Y = some Y → Y.lo ≤ G.w0.heap.size ∧ (∃ k,Y.J k w F m B ∧ ∀ l L e k',σ gh = .gho l L e k' → l = Y.l ∧ L = Y.L ∧ e = Y.stop ∧ k' = k) ∧ ∀ g b,nb ≤ g → (σ g).isBlk = true → m g = some (some b) → ¬ B b ∧ Y.lo ≤ b
 low : ∀ Y,G.Y = some Y → ∀ p,p ∈ G.kept → Y.lo ≤ p.1
def Ext (G : Ctx) (σ : Env) (w : World) (F : Cells) (m : Names) : Prop:=∃ B,ExtB G σ w F m B
structure RelF (G : Ctx) (σ : Env) (tm : Array Value) (w : World) (F : Cells) (m : Names) : Prop where
 size : tm.size = G.n
 nle : G.n ≤ nb
 slots : ∀ t,t < nb → Fz w F m (σ t) (tm.getD t undef)
 blks : ∀ g,nb ≤ g → Blk w F m g (σ g)
 inj : ∀ g g' b,nb ≤ g → nb ≤ g' → (σ g).isBlk = true → (σ g').isBlk = true → m g = some (some b) → m g' = some (some b) → g = g'
 wf : ∀ b o,F b o → b < w.heap.size
 chg : Chg G.w0 G.F0 G.R0 w F
 own : ∀ g b,nb ≤ g → (σ g).isBlk = true → m g = some (some b) → G.R0 b ∨ G.w0.heap.size ≤ b
 par : ∀ i,i < G.k → σ (nb + i) ≠ .free ∧ m (nb + i) = G.m0 (nb + i)
 nlt : G.n ≤ gh
 ext : Ext G σ w F m
def Rel (G : Ctx) (σ : Env) (a : Act) (w : World) : Prop:=a.defers = G.dm.map markOf ∧ ∃ F m,RelF G σ a.tmps w F m
theorem Blk.isRow {w : World} {F : Cells} {m : Names} {g b : Nat} {d : D} (h : Blk w F m g d) (hd : d.isBlk = true) (hg : m g = some (some b)) : ∃ cur T,w.heap[b]? = some (.cells cur T (0,0)):=by
 cases d with
 | obj cs=>
  obtain ⟨b',cur,U,hg',hb,_⟩:=h
  obtain rfl : b = b':=by rw [hg] at hg'; simpa using hg'
  exact ⟨_,_,hb⟩
 | row s es=>
  rcases h with ⟨_,h2⟩ | ⟨b',cur,U,hg',hb,_⟩
  ·rw [hg] at h2; cases h2
  ·obtain rfl : b = b':=by rw [hg] at hg'; simpa using hg'
   exact ⟨_,_,hb⟩
 | _=>cases hd
theorem ExtB.step {G : Ctx} {σ σ' : Env} {w w' : World} {F F' : Cells} {m m' : Names} {T B : Blocks} (h : ExtB G σ w F m B) (hblk : ∀ g,nb ≤ g → Blk w F m g (σ g)) (c : Chg w F T w' F') (wf : ∀ b o,F' b o → b < w'.heap.size)
  (hT : ∀ b,T b → ∃ g,nb ≤ g ∧ (σ g).isBlk = true ∧ m g = some (some b)) (hg : ∀ l L e k,σ' gh = .gho l L e k → σ gh = .gho l L e k)
  (hn : ∀ g b,nb ≤ g → (σ' g).isBlk = true → m' g = some (some b) → (∃ g',nb ≤ g' ∧ (σ g').isBlk = true ∧ m g' = some (some b)) ∨ w.heap.size ≤ b) (hlow : ∀ g,g < nb → m' g = m g:=by intro g' hg'; first | rfl | exact if_neg (by omega)) : ExtB G σ' w' F' m' B where
 kept p hp:=by
  obtain ⟨h1,h2,h3,h4⟩:=h.kept p hp
  have hlt:=(Array.getElem?_eq_some_iff.1 h1).1
  have hnT : ¬ T p.1:=fun ht=>by
   obtain ⟨g,hgn,hb,hm⟩:=hT _ ht
   obtain ⟨cur,U,hc⟩:=(hblk g hgn).isRow hb hm
   rw [hc] at h1
   rw [← Option.some.inj h1] at h2
   cases h2
  exact ⟨(c.block _ hlt hnT).trans h1,h2,fun o ho=>h3 o (c.back _ o ho hlt hnT),h4⟩
 own:=h.own
 no hY:=⟨fun l L e k hk=>(h.no hY).1 l L e k (hg l L e k hk),(h.no hY).2⟩
 yes Y hY:=by
  obtain ⟨h0,⟨k,hJ,hk⟩,hdis⟩:=h.yes Y hY
  obtain ⟨hlo,hlt⟩:=Y.lt _ _ _ _ _ hJ
  refine ⟨h0,⟨k,Y.stable _ _ _ _ _ _ T _ _ hJ c wf (fun b hb=>?_) hlow,fun l L e k' he=>hk l L e k' (hg l L e k' he)⟩,fun g b hgn hb hm=>?_⟩
  ·obtain ⟨g,hgn,hbl,hm⟩:=hT b hb
   exact hdis g b hgn hbl hm
  ·rcases hn g b hgn hb hm with ⟨g',h1,h2,h3⟩ | hle
   ·exact hdis g' b h1 h2 h3
   ·exact ⟨fun hB=>by have:=hlt b hB; omega,by omega⟩
 low:=h.low
theorem Ext.step {G : Ctx} {σ σ' : Env} {w w' : World} {F F' : Cells} {m m' : Names} {T : Blocks} (h : Ext G σ w F m) (hblk : ∀ g,nb ≤ g → Blk w F m g (σ g)) (c : Chg w F T w' F') (wf : ∀ b o,F' b o → b < w'.heap.size)
  (hT : ∀ b,T b → ∃ g,nb ≤ g ∧ (σ g).isBlk = true ∧ m g = some (some b)) (hg : ∀ l L e k,σ' gh = .gho l L e k → σ gh = .gho l L e k)
  (hn : ∀ g b,nb ≤ g → (σ' g).isBlk = true → m' g = some (some b) → (∃ g',nb ≤ g' ∧ (σ g').isBlk = true ∧ m g' = some (some b)) ∨ w.heap.size ≤ b) (hlow : ∀ g,g < nb → m' g = m g:=by intro g' hg'; first | rfl | exact if_neg (by omega)) : Ext G σ' w' F' m':=by
 obtain ⟨B,h⟩:=h
 exact ⟨B,h.step hblk c wf hT hg hn hlow⟩
theorem Ext.same {G : Ctx} {σ σ' : Env} {w : World} {F : Cells} {m : Names} (h : Ext G σ w F m) (hblk : ∀ g,nb ≤ g → Blk w F m g (σ g)) (wf : ∀ b o,F b o → b < w.heap.size) (hg : ∀ l L e k,σ' gh = .gho l L e k → σ gh = .gho l L e k)
  (hn : ∀ g,nb ≤ g → (σ' g).isBlk = true → (σ g).isBlk = true) : Ext G σ' w F m:=
 h.step hblk (Chg.refl w F noBlocks) wf (fun _ hb=>hb.elim) hg (fun g _ h1 h2 h3=>.inl ⟨g,h1,hn g h1 h2,h3⟩)
theorem Rel.ext {G : Ctx} {σ τ : Env} {a : Act} {w : World} (h : Rel G σ a w) (e : ∀ t,σ t = τ t) : Rel G τ a w:=by
 obtain rfl : σ = τ:=funext e
 exact h
theorem Rel.drew {G : Ctx} {σ : Env} {a : Act} {w : World} (h : Rel G σ a w) : Rel G σ a w.drew:=by
 obtain ⟨hd,F,m,h⟩:=h
 have c : Chg w F noBlocks w.drew F:=(Chg.refl w F noBlocks).drew
 exact ⟨hd,F,m,h.size,h.nle,fun t ht=>(h.slots t ht).still c,fun g hg=>(h.blks g hg).stable c (fun _ _ h=>h) (fun e=>by have:=h.blks g hg; rw [e] at this; exact this) (fun _ _ _=>id),h.inj,h.wf,h.chg.drew,h.own,h.par,h.nlt,
  h.ext.step h.blks c h.wf (fun _ hb=>hb.elim) (fun _ _ _ _ h=>h) (fun g b h1 h2 h3=>.inl ⟨g,h1,h2,h3⟩)⟩
section
variable {G : Ctx} {σ : Env} {tm : Array Value} {w : World} {F : Cells} {m : Names}
theorem getD_set (tm : Array Value) (s t : Nat) (x : Value) (hs : s < tm.size) : (tm.setIfInBounds s x).getD t undef = if t = s then x else tm.getD t undef:=by
 by_cases e : t = s
 ·subst e; rw [if_pos rfl]; simp [hs]
 ·rw [if_neg e]; simp [Array.getElem?_setIfInBounds_ne (fun h=>e h.symm : s ≠ t)]
theorem RelF.slot (h : RelF G σ tm w F m) {d : Nat} {δ : D} {x : Value} (hd : d < G.n) (hx : Fz w F m δ x) : RelF G (σ.set d δ) (tm.setIfInBounds d x) w F m where
 size:=by simpa using h.size
 nle:=h.nle
 slots t ht:=by
  rw [getD_set _ _ _ _ (by rw [h.size]; exact hd)]
  by_cases e : t = d
  ·subst e; rw [if_pos rfl,Env.set_same]; exact hx
  ·rw [if_neg e,Env.set_ne _ _ _ _ e]; exact h.slots t ht
 blks g hg:=by
  rw [Env.set_ne _ _ _ _ (by have:=h.nle; omega)]
  exact h.blks g hg
 inj g g' b hg hg' h1 h2:=by
  rw [Env.set_ne _ _ _ _ (by have:=h.nle; omega)] at h1 h2
  exact h.inj g g' b hg hg' h1 h2
 wf:=h.wf
 chg:=h.chg
 own g b hg h1:=by
  rw [Env.set_ne _ _ _ _ (by have:=h.nle; omega)] at h1
  exact h.own g b hg h1
 par i hi:=by rw [Env.set_ne _ _ _ _ (by have:=h.nle; omega)]; exact h.par i hi
 nlt:=h.nlt
 ext:=h.ext.same h.blks h.wf (fun l L e k he=>by rw [Env.set_ne _ _ _ _ (by have:=h.nlt; omega)] at he; exact he) (fun g hg he=>by rw [Env.set_ne _ _ _ _ (by have:=h.nle; omega)] at he; exact he)
theorem RelF.recast (h : RelF G σ tm w F m) {d : Nat} {δ : D} (hd : d < nb) (hδ : ∀ l L e k,δ = .gho l L e k → σ d = .gho l L e k) (hx : Fz w F m δ (tm.getD d undef)) : RelF G (σ.set d δ) tm w F m where
 size:=h.size
 nle:=h.nle
 slots t ht:=by
  by_cases e : t = d
  ·subst e; rw [Env.set_same]; exact hx
  ·rw [Env.set_ne _ _ _ _ e]; exact h.slots t ht
 blks g hg:=by rw [Env.set_ne _ _ _ _ (by omega)]; exact h.blks g hg
 inj g g' b hg hg' h1 h2:=by
  rw [Env.set_ne _ _ _ _ (by omega)] at h1 h2
  exact h.inj g g' b hg hg' h1 h2
 wf:=h.wf
 chg:=h.chg
 own g b hg h1:=by rw [Env.set_ne _ _ _ _ (by omega)] at h1; exact h.own g b hg h1
 par i hi:=by rw [Env.set_ne _ _ _ _ (by omega)]; exact h.par i hi
 nlt:=h.nlt
 ext:=h.ext.same h.blks h.wf (fun l L e k he=>by
  by_cases hdg : gh = d
  ·subst hdg; rw [Env.set_same] at he; exact hδ l L e k he
  ·rw [Env.set_ne _ _ _ _ hdg] at he; exact he) (fun g hg he=>by rw [Env.set_ne _ _ _ _ (by omega)] at he; exact he)
theorem RelF.turn (h : RelF G σ tm w F m) {g : Nat} {δ : D} (hg : nb ≤ g) (hb : (σ g).isBlk = true) {w' : World} {F' : Cells} (c : Chg w F (fun b=>m g = some (some b)) w' F') (wf : ∀ b o,F' b o → b < w'.heap.size)
  (hx : Blk w' F' m g δ) (hδ : δ ≠ .free) : RelF G (σ.set g δ) tm w' F' m where
 size:=h.size
 nle:=h.nle
 slots t ht:=by rw [Env.set_ne _ _ _ _ (by omega)]; exact (h.slots t ht).still c
 blks g' hg':=by
  by_cases e : g' = g
  ·subst e; rw [Env.set_same]; exact hx
  ·rw [Env.set_ne _ _ _ _ e]
   exact (h.blks g' hg').stable c (fun _ _ h=>h) (fun e=>by have:=h.blks g' hg'; rw [e] at this; exact this) (fun b h1 h2 h3=>e (h.inj g' g b hg' hg h1 hb h2 h3))
 inj g1 g2 b h1 h2 h3 h4 h5 h6:=by
  have old : ∀ g',(σ.set g δ g').isBlk = true → (σ g').isBlk = true:=by
   intro g' h
   by_cases e : g' = g
   ·subst e; exact hb
   ·rwa [Env.set_ne _ _ _ _ e] at h
  exact h.inj g1 g2 b h1 h2 (old _ h3) (old _ h4) h5 h6
 wf:=wf
 chg:=h.chg.trans c (fun b hm hlt=>(h.own g b hg hb hm).resolve_right (by omega))
 own g' b hg' h1 h2:=by
  by_cases e : g' = g
  ·subst e; exact h.own g' b hg hb h2
  ·rw [Env.set_ne _ _ _ _ e] at h1; exact h.own g' b hg' h1 h2
 par i hi:=by
  refine ⟨?_,(h.par i hi).2⟩
  by_cases e : nb + i = g
  ·rw [e,Env.set_same]; exact hδ
  ·rw [Env.set_ne _ _ _ _ e]; exact (h.par i hi).1
 nlt:=h.nlt
 ext:=h.ext.step h.blks c wf (fun _ hm=>⟨g,hg,hb,hm⟩) (fun l L e k he=>by rw [Env.set_ne _ _ _ _ (by show ¬ 999999 = g; have : 1000000 ≤ g:=hg; omega)] at he; exact he) (fun g' b h1 h2 h3=>by
  by_cases e : g' = g
  ·subst e; exact .inl ⟨_,h1,hb,h3⟩
  ·rw [Env.set_ne _ _ _ _ e] at h2; exact .inl ⟨_,h1,h2,h3⟩)
theorem RelF.name (h : RelF G σ tm w F m) {g : Nat} {δ : D} (hg : nb ≤ g) (hf : σ g = .free) {w' : World} {F' : Cells} (c : Chg w F noBlocks w' F') (wf : ∀ b o,F' b o → b < w'.heap.size) (p : Option Nat)
  (hx : Blk w' F' (fun g'=>if g' = g then some p else m g') g δ) (hp : ∀ b,p = some b → ∀ g',nb ≤ g' → (σ g').isBlk = true → m g' ≠ some (some b)) (hown : ∀ b,p = some b → G.R0 b ∨ G.w0.heap.size ≤ b)
  (hE : Ext G (σ.set g δ) w' F' (fun g'=>if g' = g then some p else m g')) :
  RelF G (σ.set g δ) tm w' F' (fun g'=>if g' = g then some p else m g'):=by
 have hmg : m g = none:=by have:=h.blks g hg; rw [hf] at this; exact this
 have hm : ∀ g' q,m g' = some q → (fun g'=>if g' = g then some p else m g') g' = some q:=by
  intro g' q h1
  dsimp only
  rw [if_neg (fun e=>by rw [e,hmg] at h1; cases h1)]
  exact h1
 refine ⟨h.size,h.nle,fun t ht=>?_,fun g' hg'=>?_,fun g1 g2 b h1 h2 h3 h4 h5 h6=>?_,wf,h.chg.trans c (fun _ hk=>hk.elim),fun g' b hg' h1 h2=>?_,fun i hi=>?_,h.nlt,hE⟩
 ·rw [Env.set_ne _ _ _ _ (by omega)]; exact (h.slots t ht).stable c hm
 ·by_cases e : g' = g
  ·subst e; rw [Env.set_same]; exact hx
  ·rw [Env.set_ne _ _ _ _ e]
   exact (h.blks g' hg').stable c hm (fun e'=>by
    have:=h.blks g' hg'
    rw [e'] at this
    rw [if_neg e]
    exact this) (fun _ _ _=>id)
 ·by_cases e1 : g1 = g
  ·by_cases e2 : g2 = g
   ·rw [e1,e2]
   ·rw [if_pos e1] at h5
    rw [if_neg e2] at h6
    rw [Env.set_ne _ _ _ _ e2] at h4
    exact absurd h6 (hp b (by simpa using h5) g2 h2 h4)
  ·rw [if_neg e1] at h5
   rw [Env.set_ne _ _ _ _ e1] at h3
   by_cases e2 : g2 = g
   ·rw [if_pos e2] at h6
    exact absurd h5 (hp b (by simpa using h6) g1 h1 h3)
   ·rw [if_neg e2] at h6
    rw [Env.set_ne _ _ _ _ e2] at h4
    exact h.inj g1 g2 b h1 h2 h3 h4 h5 h6
 ·by_cases e : g' = g
  ·rw [if_pos e] at h2; exact hown b (by simpa using h2)
  ·rw [if_neg e] at h2
   rw [Env.set_ne _ _ _ _ e] at h1
   exact h.own g' b hg' h1 h2
 ·have h1:=h.par i hi
  have e : nb + i ≠ g:=fun e=>h1.1 (by rw [e]; exact hf)
  refine ⟨by rw [Env.set_ne _ _ _ _ e]; exact h1.1,?_⟩
  rw [if_neg e]
  exact h1.2
theorem RelF.nameE (h : RelF G σ tm w F m) {g : Nat} {δ : D} (hg : nb ≤ g) {w' : World} {F' : Cells} (c : Chg w F noBlocks w' F') (wf : ∀ b o,F' b o → b < w'.heap.size) (p : Option Nat) (hp : ∀ b,p = some b → w.heap.size ≤ b) :
  Ext G (σ.set g δ) w' F' (fun g'=>if g' = g then some p else m g'):=
 h.ext.step h.blks c wf (fun _ hb=>hb.elim) (fun l L e k he=>by rw [Env.set_ne _ _ _ _ (by show ¬ 999999 = g; have : 1000000 ≤ g:=hg; omega)] at he; exact he) (fun g' b h1 h2 h3=>by
  by_cases e : g' = g
  ·subst e; rw [if_pos rfl] at h3; exact .inr (hp b (by simpa using h3))
  ·rw [if_neg e] at h3; rw [Env.set_ne _ _ _ _ e] at h2; exact .inl ⟨_,h1,h2,h3⟩)
end
end
section
open Go.RowKit
structure Ent where
 rd : List Nat
 wr : List Nat
structure StepOK (P : Program) (ops : Array Oper) (G : Ctx) (i : Nat) (e : Ent) (σ : Env) (upd : Upd) : Prop where
 wr : ∀ p,p ∈ upd → p.1 ∈ e.wr
 run : ∀ (τ : Env) (a : Act) (w : World) (K : Act → World → Prop) (Q : Exit → Act → World → Prop),(∀ t,t ∈ e.rd → τ t = σ t) →
  Rel G τ a w → (∀ a' w',Rel G (Env.put upd τ) a' w' → K a' w') → ∀ n,wpOpIn G.fen n P ops Q i K a w
def Chain (P : Program) (ops : Array Oper) (G : Ctx) : Nat → Env → List (Ent × Upd) → Prop
 | i,_,[]=>i = ops.size
 | i,σ,p :: l=>StepOK P ops G i p.1 σ p.2 ∧ Chain P ops G (i + 1) (Env.put p.2 σ) l
abbrev Entry:=Ent × Upd
def stOf : List Entry → (Nat → Bool) → Nat → Env → Env
 | [],_,_,σ=>σ
 | p :: l,f,i,σ=>stOf l f (i + 1) (if f i then Env.put p.2 σ else σ)
def wrs (p : Entry) (t : Nat) : Prop:=∃ q,q ∈ p.2 ∧ q.1 = t
theorem stOf_agree (l : List Entry) : ∀ (f g : Nat → Bool) (i : Nat) (σ τ : Env) (t : Nat),σ t = τ t →
  (∀ k p,l[k]? = some p → wrs p t → f (i + k) = g (i + k)) → stOf l f i σ t = stOf l g i τ t:=by
 induction l with
 | nil=>intro f g i σ τ t h _; exact h
 | cons p l ih=>
  intro f g i σ τ t h hfg
  refine ih f g (i + 1) _ _ t ?_ (fun k q hk hw=>?_)
  ·by_cases hw : wrs p t
   ·have e:=hfg 0 p rfl hw
    rw [Nat.add_zero] at e
    rw [e]
    cases g i
    ·exact h
    ·exact Env.put_in _ _ _ _ hw
   ·have o : ∀ τ : Env,Env.put p.2 τ t = τ t:=fun τ=>Env.put_out _ _ _ (fun q hq e=>hw ⟨q,hq,e⟩)
    cases f i <;> cases g i <;> simp [o,h]
  ·have:=hfg (k + 1) q (by simpa using hk) hw
   rwa [show i + (k + 1) = i + 1 + k by omega] at this
theorem stOf_still (l : List Entry) (f : Nat → Bool) (i : Nat) (σ : Env) (t : Nat) (h : ∀ k p,l[k]? = some p → wrs p t → f (i + k) = false) : stOf l f i σ t = σ t:=by
 induction l generalizing i σ with
 | nil=>rfl
 | cons p l ih=>
  rw [stOf,ih (i + 1) _ (fun k q hk hw=>by
   have:=h (k + 1) q (by simpa using hk) hw
   rwa [show i + (k + 1) = i + 1 + k by omega] at this)]
  by_cases hw : wrs p t
  ·have e:=h 0 p rfl hw
   rw [Nat.add_zero] at e
   rw [e]; rfl
  ·cases f i
   ·rfl
   ·exact Env.put_out _ _ _ (fun q hq e=>hw ⟨q,hq,e⟩)
theorem stOf_append (l m : List Entry) : ∀ (f : Nat → Bool) (i : Nat) (σ : Env),stOf (l ++ m) f i σ = stOf m f (i + l.length) (stOf l f i σ):=by
 induction l with
 | nil=>intro f i σ; rfl
 | cons p l ih=>intro f i σ; rw [List.cons_append,stOf,ih,stOf,List.length_cons,show i + 1 + l.length = i + (l.length + 1) by omega]
theorem Chain.at {P : Program} {ops : Array Oper} {G : Ctx} (l : List Entry) : ∀ (i : Nat) (σ : Env),Chain P ops G i σ l → ∀ k p,l[k]? = some p →
  StepOK P ops G (i + k) p.1 (stOf l (fun j=>decide (j < i + k)) i σ) p.2:=by
 induction l with
 | nil=>intro i σ _ k p hk; cases k <;> cases hk
 | cons q l ih=>
  intro i σ h k p hk
  cases k with
  | zero=>
   obtain rfl : q = p:=by simpa using hk
   have e : stOf (q :: l) (fun j=>decide (j < i + 0)) i σ = σ:=by
    funext t
    exact stOf_still _ _ _ _ _ (fun k p _ _=>by simp)
   rw [e]
   exact h.1
  | succ k=>
   have:=ih (i + 1) _ h.2 k p (by simpa using hk)
   rw [show i + 1 + k = i + (k + 1) by omega] at this
   rw [stOf,if_pos (by simp)]
   exact this
theorem Chain.size {P : Program} {ops : Array Oper} {G : Ctx} (l : List Entry) : ∀ (i : Nat) (σ : Env),Chain P ops G i σ l → i + l.length = ops.size:=by
 induction l with
 | nil=>intro i σ h; exact h
 | cons q l ih=>intro i σ h; have:=ih (i + 1) _ h.2; rw [List.length_cons]; omega
def cloStep (acc : List Nat) (es : List Edge) : Nat:=es.foldl (fun s e=>if Region.binds .any e then s ||| (2 ^ e.on ||| acc.getD e.on 0) else s) 0
def clo : List Oper → List Nat → List Nat
 | [],acc=>acc
 | o :: l,acc=>clo l (acc ++ [cloStep acc o.after.toList])
theorem cloFold_bit (acc : List Nat) (i : Nat) (es : List Edge) : ∀ s : Nat,(es.foldl (fun s e=>if Region.binds .any e then s ||| (2 ^ e.on ||| acc.getD e.on 0) else s) s).testBit i = true →
  s.testBit i = true ∨ ∃ e,e ∈ es ∧ Region.binds .any e = true ∧ (e.on = i ∨ (acc.getD e.on 0).testBit i = true):=by
 induction es with
 | nil=>intro s h; exact .inl h
 | cons e es ih=>
  intro s h
  rcases ih _ h with h | ⟨e',he,hb,h⟩
  ·dsimp only at h
   by_cases hb : Region.binds .any e = true
   ·rw [if_pos hb,Nat.testBit_or,Nat.testBit_or,Bool.or_eq_true,Bool.or_eq_true] at h
    rcases h with h | h | h
    ·exact .inl h
    ·refine .inr ⟨e,List.mem_cons_self ..,hb,.inl ?_⟩
     rw [Nat.testBit_two_pow] at h
     simpa using h
    ·exact .inr ⟨e,List.mem_cons_self ..,hb,.inr h⟩
   ·rw [if_neg hb] at h; exact .inl h
  ·exact .inr ⟨e',List.mem_cons_of_mem _ he,hb,h⟩
theorem cloStep_bit {acc : List Nat} {i : Nat} {es : List Edge} (h : (cloStep acc es).testBit i = true) :
  ∃ e,e ∈ es ∧ Region.binds .any e = true ∧ (e.on = i ∨ (acc.getD e.on 0).testBit i = true):=by
 rcases cloFold_bit acc i es 0 h with h | h
 ·simp at h
 ·exact h
theorem clo_keeps (l : List Oper) : ∀ (acc : List Nat) (j : Nat),j < acc.length → (clo l acc).getD j 0 = acc.getD j 0:=by
 induction l with
 | nil=>intro acc j _; rfl
 | cons o l ih=>
  intro acc j hj
  rw [clo,ih _ _ (by simp; omega)]
  simp [List.getD_eq_getElem?_getD,List.getElem?_append_left hj]
theorem clo_at (l : List Oper) : ∀ (acc : List Nat) (k : Nat) (o : Oper),l[k]? = some o → (∀ e,e ∈ o.after.toList → Region.binds .any e = true → e.on < acc.length + k) →
  ∀ i,((clo l acc).getD (acc.length + k) 0).testBit i = true → ∃ e,e ∈ o.after.toList ∧ Region.binds .any e = true ∧ (e.on = i ∨ ((clo l acc).getD e.on 0).testBit i = true):=by
 induction l with
 | nil=>intro acc k o h; cases k <;> cases h
 | cons q l ih=>
  intro acc k o h hlt i hi
  cases k with
  | zero=>
   obtain rfl : q = o:=by simpa using h
   rw [clo,Nat.add_zero,clo_keeps _ _ _ (by simp)] at hi
   have e1 : (acc ++ [cloStep acc q.after.toList]).getD acc.length 0 = cloStep acc q.after.toList:=by simp [List.getD_eq_getElem?_getD]
   rw [e1] at hi
   obtain ⟨e,he,hb,hc⟩:=cloStep_bit hi
   refine ⟨e,he,hb,hc.imp id (fun hc=>?_)⟩
   have hl:=hlt e he hb
   rw [clo,clo_keeps _ _ _ (by simp; omega)]
   simpa [List.getD_eq_getElem?_getD,List.getElem?_append_left (show e.on < acc.length by omega)] using hc
  | succ k=>
   have hl : (acc ++ [cloStep acc q.after.toList]).length = acc.length + 1:=by simp
   have:=ih (acc ++ [cloStep acc q.after.toList]) k o (by simpa using h) (fun e he hb=>by have:=hlt e he hb; omega) i (by rw [hl,show acc.length + 1 + k = acc.length + (k + 1) by omega]; exact hi)
   exact this
def edgesOk : Nat → List Oper → Bool
 | _,[]=>true
 | k,o :: l=>(o.after.toList.all fun e=>!Region.binds .any e || decide (e.on < k)) && edgesOk (k + 1) l
theorem edgesOk_spec (l : List Oper) : ∀ k,edgesOk k l = true → ∀ (j : Nat) (o : Oper),l[j]? = some o → ∀ e,e ∈ o.after.toList → Region.binds .any e = true → e.on < k + j:=by
 induction l with
 | nil=>intro k _ j o h; cases j <;> cases h
 | cons q l ih=>
  intro k h j o hj e he hb
  rw [edgesOk,Bool.and_eq_true,List.all_eq_true] at h
  cases j with
  | zero=>
   obtain rfl : q = o:=by simpa using hj
   have:=h.1 e he
   rw [hb] at this
   simpa using this
  | succ j=>have:=ih (k + 1) h.2 j o (by simpa using hj) e he hb; omega
theorem clo_done {ops : List Oper} (hed : edgesOk 0 ops = true) (f : Nat → Bool) (hf : ∀ k o,f k = true → ops[k]? = some o → ∀ e,e ∈ o.after.toList → Region.binds .any e = true → f e.on = true) :
  ∀ (j : Nat) (o : Oper),ops[j]? = some o → (∀ e,e ∈ o.after.toList → Region.binds .any e = true → f e.on = true) → ∀ i,((clo ops []).getD j 0).testBit i = true → f i = true:=by
 intro j
 induction j using Nat.strongRecOn with
 | _ j ih=>
  intro o ho hr i hi
  have hlt:=edgesOk_spec ops 0 hed j o ho
  obtain ⟨e,he,hb,hc⟩:=clo_at ops [] j o ho (by simpa using hlt) i (by simpa using hi)
  have hfe:=hr e he hb
  rcases hc with rfl | hc
  ·exact hfe
  ·have hj : e.on < j:=by have:=hlt e he hb; omega
   have hjl : j < ops.length:=(List.getElem?_eq_some_iff.1 ho).1
   have hoe : ops[e.on]? = some ops[e.on]:=List.getElem?_eq_getElem (by omega)
   exact ih e.on hj _ hoe (fun e' he' hb'=>hf e.on _ hfe hoe e' he' hb') i hc
def apartL (a b : List Nat) : Bool:=a.all fun x=>!b.contains x
theorem apartL_spec {a b : List Nat} (h : apartL a b = true) {x : Nat} (ha : x ∈ a) (hb : x ∈ b) : False:=by
 rw [apartL,List.all_eq_true] at h
 have:=h x ha
 simp [hb] at this
def okPair (B : List Nat) (i j : Nat) (a b : Ent) : Bool:=
 (B.getD j 0).testBit i || (apartL a.wr b.rd && apartL b.wr a.rd && apartL a.wr b.wr)
def okAgainst (B : List Nat) (i : Nat) (a : Ent) : Nat → List Ent → Bool
 | _,[]=>true
 | j,b :: l=>okPair B i j a b && okAgainst B i a (j + 1) l
def okPairs (B : List Nat) : Nat → List Ent → Bool
 | _,[]=>true
 | i,a :: l=>okAgainst B i a (i + 1) l && okPairs B (i + 1) l
theorem okAgainst_spec (B : List Nat) (i : Nat) (a : Ent) (l : List Ent) : ∀ j, okAgainst B i a j l = true → ∀ (k : Nat) (b : Ent), l[k]? = some b → okPair B i (j + k) a b = true := by
  induction l with
  | nil => intro j _ k b h; cases k <;> cases h
  | cons q l ih =>
    intro j h k b hk
    rw [okAgainst, Bool.and_eq_true] at h
    cases k with
    | zero => obtain rfl : q = b := by simpa using hk
              exact h.1
    | succ k => have := ih (j + 1) h.2 k b (by simpa using hk); rwa [show j + 1 + k = j + (k + 1) by omega] at this
theorem okPairs_spec (B : List Nat) (l : List Ent) : ∀ i,okPairs B i l = true → ∀ (j k : Nat) (a b : Ent),l[j]? = some a → l[k]? = some b → j < k → okPair B (i + j) (i + k) a b = true:=by
 induction l with
 | nil=>intro i _ j k a b h; cases j <;> cases h
 | cons q l ih=>
  intro i h j k a b ha hb hjk
  rw [okPairs,Bool.and_eq_true] at h
  cases j with
  | zero=>
   obtain rfl : q = a:=by simpa using ha
   obtain ⟨k,rfl⟩ : ∃ m,k = m + 1:=⟨k - 1,by omega⟩
   have:=okAgainst_spec B i q l (i + 1) h.1 k b (by simpa using hb)
   rwa [show i + 1 + k = i + (k + 1) by omega] at this
  | succ j=>
   obtain ⟨k,rfl⟩ : ∃ m,k = m + 1:=⟨k - 1,by omega⟩
   have:=ih (i + 1) h.2 j k a b (by simpa using ha) (by simpa using hb) (by omega)
   rwa [show i + 1 + j = i + (j + 1) by omega,show i + 1 + k = i + (k + 1) by omega] at this
def left (listed : Array Bool) (n : Nat) : Nat:=(List.range n).countP fun k=>!listed.getD k false
theorem countP_turn {l : List Nat} (hn : l.Nodup) {p q : Nat → Bool} {j : Nat} (hj : j ∈ l) (hp : p j = true) (hq : q j = false) (h : ∀ k,k ≠ j → q k = p k) : l.countP p = l.countP q + 1:=by
 induction l with
 | nil=>cases hj
 | cons x l ih=>
  rw [List.nodup_cons] at hn
  rw [List.countP_cons,List.countP_cons]
  by_cases e : x = j
  ·subst e
   have : l.countP p = l.countP q:=List.countP_congr (fun k hk=>by rw [h k (fun e=>hn.1 (e ▸ hk))])
   simp [hp,hq,this]
  ·have hjl : j ∈ l:=by cases hj with
    | head=>exact absurd rfl e
    | tail _ h=>exact h
   rw [ih hn.2 hjl,h x e]
   omega
section
variable {P : Program} {ops : Array Oper} {G : Ctx} {Q : Exit → Act → World → Prop} {σ : Env} {l : List Entry}
theorem any_of_chain (hc : Chain P ops G 0 σ l) (hord : okPairs (clo ops.toList []) 0 (l.map (·.1)) = true) (hed : edgesOk 0 ops.toList = true)
  (hQ : ∀ a' w',Rel G (stOf l (fun _=>true) 0 σ) a' w' → Q .normal a' w') :
  ∀ (fuel : Nat) (listed : Array Bool) (a : Act) (w : World),listed.size = ops.size → left listed ops.size ≤ fuel →
   (∀ (k : Nat) (o : Oper),listed.getD k false = true → ops.toList[k]? = some o → ∀ e,e ∈ o.after.toList → Region.binds .any e = true → listed.getD e.on false = true) →
   Rel G (stOf l (fun k=>listed.getD k false) 0 σ) a w → ∀ n,wpAnyIn G.fen n P .any ops Q fuel listed a w:=by
 have hsz : l.length = ops.size:=by have:=hc.size; omega
 have hpair:=okPairs_spec _ _ 0 hord
 have done : ∀ (listed : Array Bool) (a : Act) (w : World),listed.size = ops.size → Region.ready .any ops listed = [] → Rel G (stOf l (fun k=>listed.getD k false) 0 σ) a w → Q .normal a w:=by
  intro listed a w hls hr hR
  have hall : ∀ k,k < ops.size → listed.getD k false = true:=by
   intro k
   induction k using Nat.strongRecOn with
   | _ k ih=>
    intro hk
    cases hlk : listed.getD k false with
    | true=>rfl
    | false=>
     exfalso
     have hmem : k ∈ Region.ready .any ops listed:=by
      rw [mem_ready]
      have hls' : k < listed.size:=by omega
      refine ⟨?_,ops[k],Array.getElem?_eq_getElem hk,fun e he hb=>?_⟩
      ·simp [hls'] at hlk ⊢; exact hlk
      ·have:=edgesOk_spec ops.toList 0 hed k ops[k] (by simp [hk]) e (by simpa using he) hb
       exact ih e.on (by omega) (by omega)
     rw [hr] at hmem
     cases hmem
  refine hQ a w (hR.ext (fun t=>stOf_agree l _ _ 0 σ σ t rfl (fun k p hk _=>?_)))
  rw [Nat.zero_add]
  exact hall k (by have:=(List.getElem?_eq_some_iff.1 hk).1; omega)
 intro fuel
 induction fuel with
 | zero=>
  intro listed a w hls hleft hcl hR n
  have hr : Region.ready .any ops listed = []:=by
   cases hr : Region.ready .any ops listed with
   | nil=>rfl
   | cons j rs=>
    exfalso
    have hj : j ∈ Region.ready .any ops listed:=by rw [hr]; exact List.mem_cons_self ..
    obtain ⟨h0,o,ho,_⟩:=mem_ready.1 hj
    have hjo:=(Array.getElem?_eq_some_iff.1 ho).1
    have hjl : j < listed.size:=by omega
    have h00 : listed.getD j false = false:=by simp [hjl] at h0 ⊢; exact h0
    have : 0 < left listed ops.size:=List.countP_pos_iff.2 ⟨j,List.mem_range.2 hjo,by rw [h00]; rfl⟩
    omega
  exact ⟨hr,done listed a w hls hr hR⟩
 | succ fuel ih=>
  intro listed a w hls hleft hcl hR n
  refine ⟨fun hr=>done listed a w hls hr hR,fun j hj=>?_⟩
  obtain ⟨h0,o,ho,hpre⟩:=mem_ready.1 hj
  have hjo:=(Array.getElem?_eq_some_iff.1 ho).1
  have hjl : j < listed.size:=by omega
  have h00 : listed.getD j false = false:=by simp [hjl] at h0 ⊢; exact h0
  have hoL : ops.toList[j]? = some o:=by simpa using ho
  have hpre' : ∀ e,e ∈ o.after.toList → Region.binds .any e = true → listed.getD e.on false = true:=fun e he hb=>hpre e (by simpa using he) hb
  have hclo:=clo_done hed (fun k=>listed.getD k false) hcl
  have hjp : l[j]? = some l[j]:=List.getElem?_eq_getElem (by omega)
  generalize l[j] = p at hjp
  have hst:=hc.at l 0 σ j p hjp
  rw [Nat.zero_add] at hst
  -- who is done though it stands behind,or is not though it stands ahead,touches nothing of j
  have behind : ∀ (k : Nat) (q : Entry),l[k]? = some q → j < k → listed.getD k false = true → ((clo ops.toList []).getD k 0).testBit j = false:=by
   intro k q hk hjk hf
   cases hb : ((clo ops.toList []).getD k 0).testBit j with
   | false=>rfl
   | true=>
    exfalso
    have hkl : k < ops.size:=by have:=(List.getElem?_eq_some_iff.1 hk).1; omega
    have hok : ops.toList[k]? = some ops[k]:=by simp [hkl]
    have:=hclo k _ hok (hcl k _ hf hok) j hb
    rw [h00] at this
    cases this
  have ahead : ∀ (k : Nat) (q : Entry),l[k]? = some q → k < j → listed.getD k false = false → ((clo ops.toList []).getD j 0).testBit k = false:=by
   intro k q hk hkj hf
   cases hb : ((clo ops.toList []).getD j 0).testBit k with
   | false=>rfl
   | true=>
    exfalso
    have:=hclo j o hoL hpre' k hb
    rw [hf] at this
    cases this
  have hm : ∀ (k : Nat) (q : Entry),l[k]? = some q → (l.map (·.1))[k]? = some q.1:=fun k q hk=>by simp [hk]
  have pjk : ∀ (k : Nat) (q : Entry),l[k]? = some q → j < k → listed.getD k false = true → apartL p.1.wr q.1.rd = true ∧ apartL q.1.wr p.1.rd = true ∧ apartL p.1.wr q.1.wr = true:=by
   intro k q hk hjk hf
   have h1:=hpair j k p.1 q.1 (hm j p hjp) (hm k q hk) hjk
   rw [Nat.zero_add,Nat.zero_add,okPair,behind k q hk hjk hf] at h1
   simp only [Bool.false_or,Bool.and_eq_true] at h1
   exact ⟨h1.1.1,h1.1.2,h1.2⟩
  have pkj : ∀ (k : Nat) (q : Entry),l[k]? = some q → k < j → listed.getD k false = false → apartL q.1.wr p.1.rd = true:=by
   intro k q hk hkj hf
   have h1:=hpair k j q.1 p.1 (hm k q hk) (hm j p hjp) hkj
   rw [Nat.zero_add,Nat.zero_add,okPair,ahead k q hk hkj hf] at h1
   simp only [Bool.false_or,Bool.and_eq_true] at h1
   exact h1.1.1
  have wrof : ∀ (k : Nat) (q : Entry),l[k]? = some q → ∀ t,wrs q t → t ∈ q.1.wr:=by
   intro k q hk t ⟨x,hx,he⟩
   have:=(hc.at l 0 σ k q hk).wr x hx
   rwa [he] at this
  have hagree : ∀ t,t ∈ p.1.rd → stOf l (fun k=>listed.getD k false) 0 σ t = stOf l (fun i=>decide (i < j)) 0 σ t:=by
   intro t ht
   refine stOf_agree l _ _ 0 σ σ t rfl (fun k q hk hw=>?_)
   rw [Nat.zero_add]
   have hwq:=wrof k q hk t hw
   rcases Nat.lt_trichotomy k j with h | rfl | h
   ·simp only [h,decide_true]
    cases hf : listed.getD k false with
    | true=>rfl
    | false=>exact (apartL_spec (pkj k q hk h hf) hwq ht).elim
   ·simp [h00]
   ·have hn : ¬ k < j:=by omega
    simp only [hn,decide_false]
    cases hf : listed.getD k false with
    | false=>rfl
    | true=>exact (apartL_spec (pjk k q hk h hf).2.1 hwq ht).elim
  refine hst.run _ a w _ Q hagree hR (fun a' w' hR'=>?_) n
  ·have hset : ∀ k,(listed.setIfInBounds j true).getD k false = if k = j then true else listed.getD k false:=by
    intro k
    by_cases e : k = j
    ·subst e; simp [hjl]
    ·rw [if_neg e,getD_set_ne false (fun h=>e h.symm)]
   refine ih _ a' w' (by simpa using hls) ?_ (fun k q hk hq e he hb=>?_) (hR'.ext (fun t=>?_)) n
   ·have:=countP_turn (List.nodup_range (n:=ops.size)) (p:=fun k=>!listed.getD k false) (q:=fun k=>!(listed.setIfInBounds j true).getD k false) (j:=j) (List.mem_range.2 hjo)
     (by rw [h00]; rfl) (by rw [hset,if_pos rfl]; rfl) (fun k hk=>by rw [hset,if_neg hk])
    unfold left at *
    omega
   ·rw [hset] at hk ⊢
    split
    ·rfl
    ·split at hk
     ·rename_i e1
      subst e1
      rw [hoL] at hq
      obtain rfl : o = q:=by simpa using hq
      exact hpre' e he hb
     ·exact hcl k q hk hq e he hb
   ·-- the slots behind j
    obtain ⟨l1,l2,hl,hl1⟩ : ∃ l1 l2,l = l1 ++ p :: l2 ∧ l1.length = j:=by
     refine ⟨l.take j,l.drop (j + 1),?_,by simp; omega⟩
     have:=List.getElem_of_getElem? hjp
     obtain ⟨hh,rfl⟩:=this
     rw [List.getElem_cons_drop,List.take_append_drop]
    have side : ∀ f : Nat → Bool,stOf l f 0 σ = stOf l2 f (j + 1) (if f j then Env.put p.2 (stOf l1 f 0 σ) else stOf l1 f 0 σ):=by
     intro f
     rw [hl,stOf_append,Nat.zero_add,hl1]
     rfl
    have at2 : ∀ (k : Nat) (q : Entry),l2[k]? = some q → l[j + 1 + k]? = some q:=by
     intro k q hk
     rw [hl,List.getElem?_append_right (by omega),hl1,show j + 1 + k - j = k + 1 by omega]
     simpa using hk
    rw [side,side,hset j,if_pos rfl,if_pos rfl]
    have e1 : stOf l1 (fun k=>(listed.setIfInBounds j true).getD k false) 0 σ = stOf l1 (fun k=>listed.getD k false) 0 σ:=by
     funext u
     refine stOf_agree l1 _ _ 0 σ σ u rfl (fun k q hk _=>?_)
     rw [Nat.zero_add,hset,if_neg (by have:=(List.getElem?_eq_some_iff.1 hk).1; omega)]
    rw [e1,h00]
    simp only [Bool.false_eq_true,if_false]
    by_cases hw : wrs p t
    ·have still : ∀ (k : Nat) (q : Entry),l2[k]? = some q → wrs q t → listed.getD (j + 1 + k) false = false:=by
      intro k q hk hwq
      cases hf : listed.getD (j + 1 + k) false with
      | false=>rfl
      | true=>exact (apartL_spec (pjk (j + 1 + k) q (at2 k q hk) (by omega) hf).2.2 (wrof j p hjp t hw) (wrof _ q (at2 k q hk) t hwq)).elim
     rw [stOf_still l2 _ (j + 1) _ t (fun k q hk hwq=>by rw [hset,if_neg (by omega)]; exact still k q hk hwq)]
     exact Env.put_in _ _ _ _ hw
    ·rw [Env.put_out _ _ _ (fun q hq e=>hw ⟨q,hq,e⟩)]
     exact stOf_agree l2 _ _ (j + 1) _ _ t (Env.put_out _ _ _ (fun q hq e=>hw ⟨q,hq,e⟩)).symm (fun k q hk _=>by rw [hset,if_neg (by omega)])
end
end
section
open Go.RowKit
def Cells.with (F : Cells) (b n : Nat) : Cells:=fun c o=>F c o ∨ (c = b ∧ o < n)
theorem Chg.alloc {w : World} {F : Cells} (wf : ∀ b o,F b o → b < w.heap.size) (o : Obj) (n : Nat) : Chg w F noBlocks (w.alloc o) (F.with w.heap.size n) where
 os:=rfl
 tape:=rfl
 output:=rfl
 size:=by simp
 block b hb _:=heap_alloc_old w o b hb
 shape b cur U z hb:=⟨cur,by rw [heap_alloc_old w o b (Array.getElem?_eq_some_iff.1 hb).1]; exact hb,rfl⟩
 keep b k hf:=⟨.inl hf,World.cell?_alloc_old w o (a:=⟨b,k,none⟩) (by have:=wf b k hf; show b ≠ _; omega)⟩
 back b k hf hb _:=by
  rcases hf with hf | ⟨rfl,_⟩
  ·exact hf
  ·omega
theorem Cells.with_wf {w : World} {F : Cells} (wf : ∀ b o,F b o → b < w.heap.size) (o : Obj) (n : Nat) : ∀ b k,(F.with w.heap.size n) b k → b < (w.alloc o).heap.size:=by
 intro b k h
 rw [World.size_alloc]
 rcases h with h | ⟨rfl,_⟩
 ·have:=wf b k h; omega
 ·omega
theorem Chg.alloc0 {w : World} {F : Cells} (wf : ∀ b o,F b o → b < w.heap.size) (o : Obj) : Chg w F noBlocks (w.alloc o) F where
 os:=rfl
 tape:=rfl
 output:=rfl
 size:=by simp
 block b hb _:=heap_alloc_old w o b hb
 shape b cur U z hb:=⟨cur,by rw [heap_alloc_old w o b (Array.getElem?_eq_some_iff.1 hb).1]; exact hb,rfl⟩
 keep b k hf:=⟨hf,World.cell?_alloc_old w o (a:=⟨b,k,none⟩) (by have:=wf b k hf; show b ≠ _; omega)⟩
 back b k hf hb _:=hf
theorem wf_alloc {w : World} {F : Cells} (wf : ∀ b o,F b o → b < w.heap.size) (o : Obj) : ∀ b k,F b k → b < (w.alloc o).heap.size:=by
 intro b k h
 rw [World.size_alloc]
 have:=wf b k h; omega
theorem Chg.setRow {w : World} {F : Cells} (b : Nat) (old new : Array Value) (T : TypeId) (hb : w.heap[b]? = some (.cells old T (0,0))) (hsz : new.size = old.size) (n : Nat) (hsame : ∀ o,F b o → new[o]? = old[o]?) :
  Chg w F (fun k=>k = b) (w.setRow b new) (F.with b n) where
 os:=rfl
 tape:=rfl
 output:=rfl
 size:=by simp
 block c _ hn:=setRow_other w b c new hn
 shape c cur U z hc:=by
  by_cases e : c = b
  ·subst e
   rw [hb] at hc
   obtain ⟨rfl,rfl,rfl⟩ : old = cur ∧ T = U ∧ (0,0) = z:=by injection hc with hc; injection hc with h1 h2 h3; exact ⟨h1,h2,h3⟩
   exact ⟨new,setRow_heap w c old new T (0,0) hb,hsz⟩
  ·exact ⟨cur,by rw [setRow_other w b c new e]; exact hc,rfl⟩
 keep c o hf:=by
  refine ⟨.inl hf,?_⟩
  by_cases e : c = b
  ·subst e
   rw [cell_setRow_same w c o old new T (0,0) hb,cell_of_row w c o old T (0,0) hb]
   exact hsame o hf
  ·exact cell_setRow_other w b new ⟨c,o,none⟩ e
 back c o hf _ hn:=by
  rcases hf with hf | ⟨rfl,_⟩
  ·exact hf
  ·exact absurd rfl hn
theorem Chg.setRow0 {w : World} {F : Cells} (b : Nat) (old new : Array Value) (T : TypeId) (hb : w.heap[b]? = some (.cells old T (0,0))) (hsz : new.size = old.size) (hno : ∀ o,¬ F b o) :
  Chg w F (fun k=>k = b) (w.setRow b new) F where
 os:=rfl
 tape:=rfl
 output:=rfl
 size:=by simp
 block c _ hn:=setRow_other w b c new hn
 shape c cur U z hc:=by
  by_cases e : c = b
  ·subst e
   rw [hb] at hc
   obtain ⟨rfl,rfl,rfl⟩ : old = cur ∧ T = U ∧ (0,0) = z:=by injection hc with hc; injection hc with h1 h2 h3; exact ⟨h1,h2,h3⟩
   exact ⟨new,setRow_heap w c old new T (0,0) hb,hsz⟩
  ·exact ⟨cur,by rw [setRow_other w b c new e]; exact hc,rfl⟩
 keep c o hf:=by
  refine ⟨hf,?_⟩
  by_cases e : c = b
  ·subst e; exact absurd hf (hno o)
  ·exact cell_setRow_other w b new ⟨c,o,none⟩ e
 back c o hf _ _:=hf
end
section
open Go.RowKit
def Does (P : Program) (f : FuncId) (H ds : List D) (r : D) (H' : List D) : Prop:=
 ∀ (w : World) (F : Cells) (m : Names) (xs : List Value),xs.length = ds.length → H.length ≤ H'.length → (∀ b o,F b o → b < w.heap.size) →
  (∀ (i : Nat) (d : D) (x : Value),ds[i]? = some d → xs[i]? = some x → Fz w F m d x) → (∀ (i : Nat) (d : D),H[i]? = some d → d.isBlk = true ∧ Blk w F m (nb + i) d) → (∀ g,g < nb ∨ nb + H.length ≤ g → m g = none) →
  (∀ i j b,i < H.length → j < H.length → m (nb + i) = some (some b) → m (nb + j) = some (some b) → i = j) →
  Calls P f xs.toArray w (fun e w'=>∃ (x : Value) (F' : Cells) (m' : Names),e = .returned x ∧ Chg w F (fun b=>∃ i,i < H.length ∧ m (nb + i) = some (some b)) w' F' ∧
   (∀ b o,F' b o → b < w'.heap.size) ∧ (∀ i,i < H.length → m' (nb + i) = m (nb + i)) ∧ (∀ g,g < nb ∨ nb + H'.length ≤ g → m' g = none) ∧ Fz w' F' m' r x ∧ (∀ (i : Nat) (d : D),H'[i]? = some d → d ≠ .free ∧ Blk w' F' m' (nb + i) d) ∧
   (∀ i j b d d',H'[i]? = some d → H'[j]? = some d' → d.isBlk = true → d'.isBlk = true → m' (nb + i) = some (some b) → m' (nb + j) = some (some b) → i = j) ∧
   (∀ i d b,H'[i]? = some d → d.isBlk = true → m' (nb + i) = some (some b) → (∃ j,j < H.length ∧ m (nb + j) = some (some b)) ∨ w.heap.size ≤ b))
def constD : Value → D
 | .slice none 0 0=>.nul
 | .func (.func f) a b=>if a.isEmpty && b.isEmpty then .fn f [] else .v (.func (.func f) a b)
 | x=>.v x
inductive Opd where
 | t (n : Nat)
 | k (d : D)
namespace Opd
def val (σ : Env) : Opd → D
 | t n=>σ n
 | k d=>d
def rd : Opd → List Nat
 | t n=>[n]
 | k _=>[]
end Opd
def opd : Operand → Option Opd
 | .tmp t=>if t < nb then some (.t t) else none
 | .const x=>some (.k (constD x))
 | .func f=>some (.k (.fn f []))
 | .global _=>none
namespace D
def one : D → Bool
 | v x=>x.oneCell'
 | sl _ _=>true
 | nul=>true
 | ifc _ _=>true
 | fn _ _=>true
 | bnd _ _ _=>true
 | mv _ _=>true
 | owo _ _ _ _=>true
 | ptr _=>true
 | ref _ _=>true
 | own _ _ _=>true
 | eref _ _ _ _=>true
 | kow _ _ _=>true
 | _=>false
def setAll (cs : List D) (o : Nat) (us : List D) : List D:=cs.take o ++ us ++ cs.drop (o + us.length)
def int? : D → Option Int
 | v (.int _ n)=>some n
 | _=>none
def getC (cs : List D) (o : Nat) : Option Nat → D
 | none=>cs.getD o .any
 | some n=>.agg ((cs.drop o).take n)
def getCok (cs : List D) (o : Nat) : Option Nat → Prop
 | none=>o < cs.length
 | some n=>o + n ≤ cs.length
def asC (d : D) : Option Nat → List D
 | none=>[d]
 | some _=>(match d with
  | .agg us=>us
  | _=>[])
def asCok (d : D) : Option Nat → Prop
 | none=>d.one = true
 | some n=>(match d with
  | .agg us=>us.length = n
  | _=>False)
def setC (cs : List D) (o : Nat) (d : D) : Option Nat → List D
 | none=>cs.set o d
 | some n=>setAll cs o (asC d (some n))
end D
def intBit (op : BinOp) (k : IntKind) (a b : Int) : Int:=
 match op with
 | .and=>k.wrap (BitVec.ofInt k.bits a &&& BitVec.ofInt k.bits b).toNat
 | .or=>k.wrap (BitVec.ofInt k.bits a ||| BitVec.ofInt k.bits b).toNat
 | .xor=>k.wrap (BitVec.ofInt k.bits a ^^^ BitVec.ofInt k.bits b).toNat
 | _=>k.wrap (BitVec.ofInt k.bits a &&& ~~~BitVec.ofInt k.bits b).toNat
def binV (op : BinOp) (k : IntKind) (a b : Int) : Value:=
 match op with
 | .shl=>.int k (k.wrap (a * 2 ^ (min b.toNat k.bits)))
 | .shr=>.int k (a.fdiv (2 ^ (min b.toNat k.bits)))
 | .add=>.int k (k.wrap (a + b))
 | .sub=>.int k (k.wrap (a - b))
 | .mul=>.int k (k.wrap (a * b))
 | .quo=>.int k (k.wrap (a.tdiv b))
 | .rem=>.int k (a.tmod b)
 | .and=>.int k (intBit .and k a b)
 | .or=>.int k (intBit .or k a b)
 | .xor=>.int k (intBit .xor k a b)
 | .andNot=>.int k (intBit .andNot k a b)
 | .eql=>.bool (a == b)
 | .neq=>.bool (a != b)
 | .lss=>.bool (decide (a < b))
 | .leq=>.bool (decide (a ≤ b))
 | .gtr=>.bool (decide (b < a))
 | .geq=>.bool (decide (b ≤ a))
def binVok (op : BinOp) (k k' : IntKind) (b : Int) : Prop:=
 match op with
 | .shl=>0 ≤ b
 | .shr=>0 ≤ b
 | .quo=>k = k' ∧ b ≠ 0
 | .rem=>k = k' ∧ b ≠ 0
 | _=>k = k'
def binS (op : BinOp) (a b : ByteArray) : Value:=
 match op with
 | .add=>.string (a ++ b)
 | .eql=>.bool (a.toList == b.toList)
 | _=>.bool (!(a.toList == b.toList))
def binSok (op : BinOp) (a b : ByteArray) : Prop:=
 match op with
 | .add=>a.size + b.size ≤ 1099511627776
 | .eql=>True
 | .neq=>True
 | _=>False
def binD (op : BinOp) : D → D → D
 | .v (.int k a),.v (.int _ b)=>.v (binV op k a b)
 | .v (.string a),.v (.string b)=>.v (binS op a b)
 | _,_=>.any
def binOk (op : BinOp) : D → D → Prop
 | .v (.int k _),.v (.int k' b)=>binVok op k k' b
 | .v (.string a),.v (.string b)=>binSok op a b
 | _,_=>False
def eqB : List Bool → List D → List D → Bool
 | true :: ks,.v (.int _ a) :: xs,.v (.int _ b) :: ys=>a == b && eqB ks xs ys
 | false :: ks,.v (.bool a) :: xs,.v (.bool b) :: ys=>a == b && eqB ks xs ys
 | _,_,_=>true
def eqOk : List Bool → List D → List D → Prop
 | [],[],[]=>True
 | true :: ks,.v (.int k _) :: xs,.v (.int k' _) :: ys=>k = k' ∧ eqOk ks xs ys
 | false :: ks,.v (.bool _) :: xs,.v (.bool _) :: ys=>eqOk ks xs ys
 | _,_,_=>False
def fillD (σ : Env) : List (Nat × Option Nat × Opd) → List D → List D
 | [],cs=>cs
 | (o,n,x) :: l,cs=>fillD σ l (D.setC cs o (x.val σ) n)
def fillOk (σ : Env) : List (Nat × Option Nat × Opd) → List D → Prop
 | [],_=>True
 | (o,n,x) :: l,cs=>D.asCok (x.val σ) n ∧ o + n.getD 1 ≤ cs.length ∧ fillOk σ l (D.setC cs o (x.val σ) n)
def elemsD (σ : Env) (n : Option Nat) : List (Nat × Opd) → List D → List D
 | [],es=>es
 | (i,x) :: l,es=>elemsD σ n l (es.set i (x.val σ))
def elemsOk (σ : Env) (n : Option Nat) : List (Nat × Opd) → List D → Prop
 | [],_=>True
 | (i,x) :: l,es=>D.asCok (x.val σ) n ∧ i < es.length ∧ elemsOk σ n l (es.set i (x.val σ))
def ptrC (σ : Env) (s : Nat) : List D:=
 match σ s with
 | .ref g _=>(match σ g with
  | .obj cs=>cs
  | _=>[])
 | .eref g _ i _=>(match σ g with
  | .row _ es=>(es.getD i .any).cells
  | _=>[])
 | .ptr cs=>cs
 | _=>[]
def ptrO (σ : Env) (s : Nat) : Nat:=
 match σ s with
 | .ref _ o=>o
 | .eref _ _ _ o=>o
 | _=>0
def ptrOk (σ : Env) (s : Nat) : Prop:=
 match σ s with
 | .ref g _=>nb ≤ g ∧ (match σ g with
  | .obj _=>True
  | _=>False)
 | .eref g st i _=>nb ≤ g ∧ (match σ g with
  | .row st' es=>st' = st ∧ i < es.length
  | _=>False)
 | .ptr _=>True
 | _=>False
def ptrRoot (σ : Env) (s : Nat) : List Nat:=
 match σ s with
 | .ref g _=>[g]
 | .eref g _ _ _=>[g]
 | _=>[]
def ptrD (σ : Env) (s o : Nat) : D:=
 match σ s with
 | .ref g q=>.ref g (q + o)
 | .eref g st i q=>.eref g st i (q + o)
 | .ptr cs=>.ptr (cs.drop o)
 | _=>.any
def ptrMv (σ : Env) (s : Nat) : Prop:=
 match σ s with
 | .ref _ _=>True
 | .eref _ _ _ _=>True
 | .ptr _=>True
 | _=>False
def intD (σ : Env) (x : Opd) : Int:=(x.val σ).int?.getD 0
def intOk (σ : Env) (x : Opd) : Prop:=(x.val σ).int?.isSome = true
def boundD (σ : Env) (x : Option Opd) (m : Nat) : Int:=
 match x with
 | none=>m
 | some x=>intD σ x
def boundOk (σ : Env) (x : Option Opd) : Prop:=
 match x with
 | none=>True
 | some x=>intOk σ x
def elemSet (e : D) (o : Nat) (d : D) (n : Option Nat) : D:=
 match e with
 | .agg cs=>.agg (D.setC cs o d n)
 | _=>d
def stoU (σ : Env) (s : Nat) (d : D) (n : Option Nat) : Upd:=
 match σ s with
 | .ref g o=>(match σ g with
  | .obj cs=>[(g,.obj (D.setC cs o d n))]
  | _=>[])
 | .eref g st i o=>(match σ g with
  | .row _ es=>[(g,.row st (es.set i (elemSet (es.getD i .any) o d n)))]
  | _=>[])
 | _=>[]
def notPtr : D → Prop
 | .ptr _=>False
 | _=>True
def seqD (σ : Env) : D → List D
 | .sl _ es=>es
 | .own g _ n=>(match σ g with
  | .row _ es=>es.take n
  | _=>[])
 | _=>[]
def seqOk (σ : Env) (st : Nat) : D → Prop
 | .sl b es=>b = st ∨ es = []
 | .nul=>True
 | .own g s n=>nb ≤ g ∧ s = st ∧ (match σ g with
  | .row s' es=>s' = st ∧ n ≤ es.length
  | _=>False)
 | _=>False
def seqRoot : D → List Nat
 | .own g _ _=>[g]
 | _=>[]
def isSl : D → Prop
 | .sl _ _=>False
 | _=>True
def lenD : D → Nat
 | .sl _ es=>es.length
 | .own _ _ n=>n
 | .owo _ _ _ n=>n
 | _=>0
def lenOk : D → Prop
 | .sl _ _=>True
 | .nul=>True
 | .own _ _ _=>True
 | .owo _ _ _ _=>True
 | _=>False
def ownSl (g s : Nat) (lo : Bool) (l h : Int) : D:=if lo then .owo g s l.toNat (h.toNat - l.toNat) else .own g s h.toNat
theorem ownSl_t (g s : Nat) (l h : Int) : ownSl g s true l h = .owo g s l.toNat (h.toNat - l.toNat):=rfl
theorem ownSl_f (g s : Nat) (l h : Int) : ownSl g s false l h = .own g s h.toNat:=rfl
def cpyL (es : List D) (o n : Nat) (fs : List D) : List D:=D.setAll es o (fs.take n)
def cpyU (σ : Env) (d : Nat) (x y : D) : Upd:=
 match x with
 | .owo g _ o n=>(match σ g with
  | .row st es=>[(g,.row st (cpyL es o n (seqD σ y))),(d,.v (.int .i64 (min (lenD y) n : Nat)))]
  | _=>[])
 | .own g _ n=>(match σ g with
  | .row st es=>[(g,.row st (cpyL es 0 n (seqD σ y))),(d,.v (.int .i64 (min (lenD y) n : Nat)))]
  | _=>[])
 | _=>[]
def cpyOk (σ : Env) (st : Nat) (x : D) : Prop:=
 match x with
 | .owo g s o n=>nb ≤ g ∧ s = st ∧ (match σ g with
  | .row st' es=>st' = st ∧ o + n ≤ es.length
  | _=>False)
 | .own g s n=>nb ≤ g ∧ s = st ∧ (match σ g with
  | .row st' es=>st' = st ∧ n ≤ es.length
  | _=>False)
 | _=>False
def cpyRoot : D → List Nat
 | .owo g _ _ _=>[g]
 | .own g _ _=>[g]
 | _=>[]
def clrT : Option Nat → Upd
 | none=>[]
 | some d=>[(d,.tup [])]
def clrU (σ : Env) (d : Option Nat) (x e : D) : Upd:=
 match x with
 | .owo g _ o n=>(match σ g with
  | .row st es=>(g,.row st (D.setAll es o (List.replicate n e))) :: clrT d
  | _=>[])
 | .own g _ n=>(match σ g with
  | .row st es=>(g,.row st (D.setAll es 0 (List.replicate n e))) :: clrT d
  | _=>[])
 | _=>[]
def neD : D → Prop
 | .sl _ es=>0 < es.length
 | .own _ _ n=>0 < n
 | .v (.slice _ _ _)=>True
 | _=>False
inductive In where
 | mov (d : Nat) (x : Opd)
 | pick (d : Nat) (c a b : Opd)
 | bin (d : Nat) (op : BinOp) (x y : Opd)
 | beq (d : Nat) (neg : Bool) (x y : Opd)
 | eqs (d : Nat) (neg : Bool) (ks : List Bool) (x y : Opd)
 | isn (d : Nat) (neg : Bool) (x : Opd)
 | mm (d : Nat) (mx : Bool) (x y : Opd)
 | un (d : Nat) (op : UnOp) (x : Opd)
 | cvt (d : Nat) (k : IntKind) (x : Opd)
 | alloc (d g : Nat) (zs : List D)
 | box (d g : Nat) (x : Opd) (n : Option Nat)
 | build (d : Nat) (zs : List D) (ps : List (Nat × Option Nat × Opd))
 | bsl (d s : Nat) (n : Option Nat) (es : List D) (ps : List (Nat × Opd))
 | bslx (d g s : Nat) (n : Option Nat) (es : List D) (ps : List (Nat × Opd))
 | fad (d s o : Nat)
 | iad (d s : Nat) (i : Opd) (st : Nat)
 | iaa (d s : Nat) (i : Opd) (len st : Nat)
 | lod (d s : Nat) (n : Option Nat)
 | sto (s : Nat) (x : Opd) (n : Option Nat)
 | fld (d : Nat) (x : Opd) (o : Nat) (n : Option Nat)
 | ext (d s i : Nat)
 | len (d : Nat) (x : Opd)
 | lens (d : Nat) (x : Opd)
 | app (d g : Nat) (x y : Opd) (st by_ : Nat)
 | slc (d : Nat) (x : Opd) (lo hi : Option Opd) (st : Nat)
 | slcs (d : Nat) (x : Opd) (lo hi : Option Opd)
 | idx (d : Nat) (x i : Opd)
 | ida (d : Nat) (x i : Opd) (m st : Nat) (n : Option Nat)
 | mks (d g : Nat) (x : Opd) (st by_ : Nat) (e : D)
 | call (d : Nat) (f : FuncId) (xs : List Opd)
 | inv (d : Nat) (x : Opd) (name : String) (xs : List Opd)
 | cal (d : Nat) (x : Opd) (xs : List Opd)
 | ifc (d : Nat) (t : TypeId) (x : Opd)
 | mkf (d : Nat) (f : FuncId) (xs : List Opd)
 | mkb (d : Nat) (name : String) (x : Opd)
 | mkm (d : Nat) (f : FuncId) (x : Opd)
 | cpy (d : Nat) (x y : Opd) (st : Nat)
 | clr (d : Option Nat) (x : Opd) (st : Nat) (e : D)
 | capn (d : Nat) (x : Opd)
 | apm (d g : Nat) (x y : Opd) (st by_ : Nat) (e : D)
 | nilc (d s : Nat)
def mmV (mx : Bool) (k : IntKind) (a b : Int) : Value:=.int k (if mx then max a b else min a b)
def In.upd (σ : Env) : In → Upd
 | .mov d x=>[(d,x.val σ)]
 | .pick d c a b=>(match c.val σ with
  | .v (.bool q)=>[(d,if q then a.val σ else b.val σ)]
  | _=>[])
 | .bin d op x y=>[(d,binD op (x.val σ) (y.val σ))]
 | .beq d neg x y=>(match x.val σ,y.val σ with
  | .v (.bool a),.v (.bool b)=>[(d,.v (.bool (if neg then !(a == b) else (a == b))))]
  | _,_=>[])
 | .eqs d neg ks x y=>(match x.val σ,y.val σ with
  | .agg xs,.agg ys=>[(d,.v (.bool (if neg then !eqB ks xs ys else eqB ks xs ys)))]
  | _,_=>[])
 | .isn d neg x=>(match x.val σ with
  | .sl _ _=>[(d,.v (.bool neg))]
  | .own _ _ _=>[(d,.v (.bool neg))]
  | .v (.slice a _ _)=>[(d,.v (.bool (a.isNone != neg)))]
  | _=>[])
 | .mm d mx x y=>(match x.val σ,y.val σ with
  | .v (.int k a),.v (.int _ b)=>[(d,.v (mmV mx k a b))]
  | _,_=>[])
 | .un d op x=>(match op,x.val σ with
  | .not,.v (.bool b)=>[(d,.v (.bool !b))]
  | .neg,.v (.int k n)=>[(d,.v (.int k (k.wrap (0 - n))))]
  | _,_=>[])
 | .cvt d k x=>[(d,.v (.int k (k.wrap (intD σ x))))]
 | .alloc d g zs=>[(g,.obj zs),(d,.ref g 0)]
 | .box d g x n=>[(g,.obj (D.asC (x.val σ) n)),(d,.ref g 0)]
 | .build d zs ps=>[(d,.agg (fillD σ ps zs))]
 | .bsl d s n es ps=>[(d,.sl s (elemsD σ n ps es))]
 | .bslx d g s n es ps=>[(g,.row s (elemsD σ n ps es)),(d,.own g s es.length)]
 | .fad d s o=>[(d,ptrD σ s o)]
 | .iad d s i st=>(match σ s with
  | .sl _ es=>[(d,.ptr (es.getD (intD σ i).toNat .any).cells)]
  | .own g _ _=>[(d,.eref g st (intD σ i).toNat 0)]
  | .owo g _ o _=>[(d,.eref g st (o + (intD σ i).toNat) 0)]
  | _=>[])
 | .iaa d s i _ st=>[(d,ptrD σ s ((intD σ i).toNat * st))]
 | .lod d s n=>[(d,D.getC (ptrC σ s) (ptrO σ s) n)]
 | .sto s x n=>stoU σ s (x.val σ) n
 | .fld d x o n=>(match x.val σ with
  | .agg cs=>[(d,D.getC cs o n)]
  | _=>[])
 | .ext d s i=>(match σ s with
  | .tup ps=>[(d,ps.getD i .any)]
  | _=>[])
 | .len d x=>[(d,.v (.int .i64 (lenD (x.val σ))))]
 | .lens d x=>(match x.val σ with
  | .v (.string b)=>[(d,.v (.int .i64 b.size))]
  | _=>[])
 | .app d g x y st _=>(match x.val σ with
  | .own h _ n=>[(h,.any),(g,.row st (seqD σ (x.val σ) ++ seqD σ (y.val σ))),(d,.own g st (n + lenD (y.val σ)))]
  | _=>[(g,.row st (seqD σ (y.val σ))),(d,.own g st (lenD (y.val σ)))])
 | .slc d x lo hi _=>(match x.val σ with
  | .sl a es=>[(d,.sl a ((es.take (boundD σ hi es.length).toNat).drop (boundD σ lo 0).toNat))]
  | .own g s n=>[(d,ownSl g s lo.isSome (boundD σ lo 0) (boundD σ hi n))]
  | .owo g s o n=>[(d,.owo g s (o + (boundD σ lo 0).toNat) ((boundD σ hi n).toNat - (boundD σ lo 0).toNat))]
  | _=>[(d,.nul)])
 | .slcs d x lo hi=>(match x.val σ with
  | .v (.string b)=>[(d,.v (.string (b.extract (boundD σ lo 0).toNat (boundD σ hi b.size).toNat)))]
  | _=>[])
 | .idx d x i=>(match x.val σ with
  | .v (.string b)=>[(d,.v (.int .u8 ((b.data.getD (intD σ i).toNat 0).toNat : Int)))]
  | _=>[])
 | .ida d x i _ st n=>(match x.val σ with
  | .agg cs=>[(d,D.getC cs ((intD σ i).toNat * st) n)]
  | _=>[])
 | .mks d g x st _ e=>[(g,.row st (List.replicate (intD σ x).toNat e)),(d,.own g st (intD σ x).toNat)]
 | .ifc d t x=>[(d,.ifc t (x.val σ))]
 | .mkf d f xs=>[(d,.fn f (xs.map (Opd.val σ)))]
 | .mkb d name x=>(match x.val σ with
  | .ifc t e=>[(d,.bnd t name e)]
  | _=>[])
 | .mkm d f x=>[(d,.mv f (x.val σ))]
 | .cpy d x y _=>cpyU σ d (x.val σ) (y.val σ)
 | .clr d x _ e=>clrU σ d (x.val σ) e
 | .capn d _=>[(d,.v (.int .i64 0))]
 | .apm d g _ y st _ e=>[(g,.row st (List.replicate (intD σ y).toNat e)),(d,.own g st (intD σ y).toNat)]
 | .nilc d s=>[(d,σ s)]
 | _=>[]
def freeN (σ : Env) (g : Nat) : Prop:=nb ≤ g ∧ σ g = .free
def In.ok (σ : Env) : In → Prop
 | .mov _ _=>True
 | .pick _ c _ _=>(match c.val σ with
  | .v (.bool _)=>True
  | _=>False)
 | .bin _ op x y=>binOk op (x.val σ) (y.val σ)
 | .beq _ _ x y=>(match x.val σ,y.val σ with
  | .v (.bool _),.v (.bool _)=>True
  | _,_=>False)
 | .eqs _ _ ks x y=>(match x.val σ,y.val σ with
  | .agg xs,.agg ys=>eqOk ks xs ys
  | _,_=>False)
 | .isn _ _ x=>neD (x.val σ)
 | .mm _ _ x y=>(match x.val σ,y.val σ with
  | .v (.int k _),.v (.int k' _)=>k = k'
  | _,_=>False)
 | .un _ op x=>(match op,x.val σ with
  | .not,.v (.bool _)=>True
  | .neg,.v (.int _ _)=>True
  | _,_=>False)
 | .cvt _ _ x=>intOk σ x
 | .alloc _ g _=>freeN σ g
 | .box _ g x n=>freeN σ g ∧ D.asCok (x.val σ) n
 | .build _ zs ps=>fillOk σ ps zs
 | .bsl _ _ n es ps=>elemsOk σ n ps es ∧ D.purL (elemsD σ n ps es) = true
 | .bslx _ g _ n es ps=>freeN σ g ∧ elemsOk σ n ps es
 | .fad _ s _=>ptrMv σ s
 | .iad _ s i st=>(match σ s with
  | .sl st' es=>st' = st ∧ intOk σ i ∧ 0 ≤ intD σ i ∧ intD σ i < es.length
  | .own _ st' n=>st' = st ∧ intOk σ i ∧ 0 ≤ intD σ i ∧ intD σ i < n
  | .owo _ st' _ n=>st' = st ∧ intOk σ i ∧ 0 ≤ intD σ i ∧ intD σ i < n
  | _=>False)
 | .iaa _ s i m _=>intOk σ i ∧ 0 ≤ intD σ i ∧ intD σ i < m ∧ ptrMv σ s
 | .lod _ s n=>ptrOk σ s ∧ D.getCok (ptrC σ s) (ptrO σ s) n
 | .sto s x n=>ptrOk σ s ∧ notPtr (σ s) ∧ D.asCok (x.val σ) n ∧ ptrO σ s + n.getD 1 ≤ (ptrC σ s).length
 | .fld _ x o n=>(match x.val σ with
  | .agg cs=>D.getCok cs o n
  | _=>False)
 | .ext _ s i=>(match σ s with
  | .tup ps=>i < ps.length
  | _=>False)
 | .len _ x=>lenOk (x.val σ)
 | .lens _ x=>(match x.val σ with
  | .v (.string _)=>True
  | _=>False)
 | .app _ g x y st by_=>freeN σ g ∧ isSl (x.val σ) ∧ seqOk σ st (x.val σ) ∧ seqOk σ st (y.val σ) ∧ (lenD (x.val σ) + lenD (y.val σ)) * by_ ≤ 1099511627776 ∧ lenD (x.val σ) + lenD (y.val σ) ≤ 1099511627776
 | .slc _ x lo hi st=>boundOk σ lo ∧ boundOk σ hi ∧ (match x.val σ with
  | .sl a es=>(a = st ∨ es = []) ∧ 0 ≤ boundD σ lo 0 ∧ boundD σ lo 0 ≤ boundD σ hi es.length ∧ boundD σ hi es.length ≤ es.length
  | .own _ s n=>(s = st ∨ lo = none) ∧ 0 ≤ boundD σ lo 0 ∧ boundD σ lo 0 ≤ boundD σ hi n ∧ boundD σ hi n ≤ n
  | .owo _ s _ n=>s = st ∧ 0 ≤ boundD σ lo 0 ∧ boundD σ lo 0 ≤ boundD σ hi n ∧ boundD σ hi n ≤ n
  | .nul=>boundD σ lo 0 = 0 ∧ boundD σ hi 0 = 0
  | _=>False)
 | .slcs _ x lo hi=>(match x.val σ with
  | .v (.string b)=>boundOk σ lo ∧ boundOk σ hi ∧ 0 ≤ boundD σ lo 0 ∧ boundD σ lo 0 ≤ boundD σ hi b.size ∧ boundD σ hi b.size ≤ b.size
  | _=>False)
 | .idx _ x i=>(match x.val σ with
  | .v (.string b)=>intOk σ i ∧ 0 ≤ intD σ i ∧ intD σ i < b.size
  | _=>False)
 | .ida _ x i m st n=>intOk σ i ∧ 0 ≤ intD σ i ∧ intD σ i < m ∧ (match x.val σ with
  | .agg cs=>D.getCok cs ((intD σ i).toNat * st) n
  | _=>False)
 | .mks _ g x _ by_ _=>freeN σ g ∧ intOk σ x ∧ 0 ≤ intD σ x ∧ intD σ x ≤ 1073741824 ∧ by_ * (intD σ x).toNat ≤ 1099511627776
 | .ifc _ _ _=>True
 | .mkf _ _ _=>True
 | .mkb _ _ x=>(match x.val σ with
  | .ifc _ _=>True
  | _=>False)
 | .mkm _ _ _=>True
 | .cpy _ x y st=>cpyOk σ st (x.val σ) ∧ seqOk σ st (y.val σ)
 | .clr _ x st _=>cpyOk σ st (x.val σ)
 | .capn _ x=>(match x.val σ with
  | .nul=>True
  | _=>False)
 | .apm _ g x y _ by_ _=>freeN σ g ∧ (match x.val σ with
  | .nul=>True
  | _=>False) ∧ intOk σ y ∧ 0 < intD σ y ∧ intD σ y ≤ 1073741824 ∧ by_ * (intD σ y).toNat ≤ 1099511627776
 | .nilc _ s=>(match σ s with
  | .ref _ _=>True
  | .eref _ _ _ _=>True
  | .ptr _=>True
  | .ifc _ _=>True
  | .fn _ _=>True
  | .mv _ _=>True
  | _=>False)
 | _=>False
def optRd : Option Opd → List Nat
 | some x=>x.rd
 | none=>[]
def In.ent (σ : Env) : In → Ent
 | .mov d x=>⟨x.rd,[d]⟩
 | .pick d c a b=>⟨c.rd ++ a.rd ++ b.rd,[d]⟩
 | .bin d _ x y=>⟨x.rd ++ y.rd,[d]⟩
 | .beq d _ x y=>⟨x.rd ++ y.rd,[d]⟩
 | .eqs d _ _ x y=>⟨x.rd ++ y.rd,[d]⟩
 | .isn d _ x=>⟨x.rd,[d]⟩
 | .mm d _ x y=>⟨x.rd ++ y.rd,[d]⟩
 | .un d _ x=>⟨x.rd,[d]⟩
 | .cvt d _ x=>⟨x.rd,[d]⟩
 | .alloc d g _=>⟨[g],[g,d]⟩
 | .box d g x _=>⟨g :: x.rd,[g,d]⟩
 | .build d _ ps=>⟨ps.flatMap fun p=>p.2.2.rd,[d]⟩
 | .bsl d _ _ _ ps=>⟨ps.flatMap fun p=>p.2.rd,[d]⟩
 | .bslx d g _ _ _ ps=>⟨g :: ps.flatMap fun p=>p.2.rd,[g,d]⟩
 | .fad d s _=>⟨[s],[d]⟩
 | .iad d s i _=>⟨s :: i.rd,[d]⟩
 | .iaa d s i _ _=>⟨s :: i.rd,[d]⟩
 | .lod d s _=>⟨s :: ptrRoot σ s,[d]⟩
 | .sto s x _=>⟨s :: (ptrRoot σ s ++ x.rd),ptrRoot σ s⟩
 | .fld d x _ _=>⟨x.rd,[d]⟩
 | .ext d s _=>⟨[s],[d]⟩
 | .len d x=>⟨x.rd,[d]⟩
 | .lens d x=>⟨x.rd,[d]⟩
 | .app d g x y _ _=>⟨g :: (x.rd ++ y.rd ++ seqRoot (x.val σ) ++ seqRoot (y.val σ)),seqRoot (x.val σ) ++ [g,d]⟩
 | .slc d x lo hi _=>⟨x.rd ++ optRd lo ++ optRd hi,[d]⟩
 | .slcs d x lo hi=>⟨x.rd ++ optRd lo ++ optRd hi,[d]⟩
 | .idx d x i=>⟨x.rd ++ i.rd,[d]⟩
 | .ida d x i _ _ _=>⟨x.rd ++ i.rd,[d]⟩
 | .mks d g x _ _ _=>⟨g :: x.rd,[g,d]⟩
 | .ifc d _ x=>⟨x.rd,[d]⟩
 | .mkf d _ xs=>⟨xs.flatMap Opd.rd,[d]⟩
 | .mkb d _ x=>⟨x.rd,[d]⟩
 | .mkm d _ x=>⟨x.rd,[d]⟩
 | .cpy d x y _=>⟨x.rd ++ y.rd ++ cpyRoot (x.val σ) ++ seqRoot (y.val σ),cpyRoot (x.val σ) ++ [d]⟩
 | .clr d x _ _=>⟨x.rd ++ cpyRoot (x.val σ),cpyRoot (x.val σ) ++ (clrT d).map (fun p=>p.1)⟩
 | .capn d x=>⟨x.rd,[d]⟩
 | .apm d g x y _ _ _=>⟨g :: (x.rd ++ y.rd),[g,d]⟩
 | .nilc d s=>⟨[s],[d]⟩
 | _=>⟨[],[]⟩
def enters (P : Program) (f : FuncId) : Bool :=
  match P.funcs[f]? with
  | some fn => fn.body.isSome && fn.name != "runtime.NumGoroutine"
  | none => false
end
section
open Go.RowKit
def szOf (P : Program) (T : TypeId) : Option (Option Nat):=
 match P.underlying T,P.info? T with
 | some (.struct _),some i=>some (some i.size)
 | some (.array _ _),some i=>some (some i.size)
 | some _,some i=>if i.size = 1 then some none else none
 | _,_=>none
section
variable {P : Program}
theorem szOf_some {T : TypeId} {n : Option Nat} (h : szOf P T = some n) : ∃ u i,P.underlying T = some u ∧ P.info? T = some i ∧ i.size = n.getD 1 ∧ (∀ w,(isAgg T).run P w = .ok n.isSome w):=by
 unfold szOf at h
 split at h
 ·rename_i fs i hu hi
  obtain rfl : some i.size = n:=by simpa using h
  exact ⟨_,i,hu,hi,rfl,fun w=>by simp [isAgg,run_underlying hu]⟩
 ·rename_i m e i hu hi
  obtain rfl : some i.size = n:=by simpa using h
  exact ⟨_,i,hu,hi,rfl,fun w=>by simp [isAgg,run_underlying hu]⟩
 ·rename_i u i hn1 hn2 hu hi
  split at h
  ·rename_i h1
   obtain rfl : none = n:=by simpa using h
   refine ⟨u,i,hu,hi,h1,fun w=>?_⟩
   cases u <;> first | (exfalso; exact hn1 _ rfl) | (exfalso; exact hn2 _ _ rfl) | simp [isAgg,run_underlying hu]
  ·cases h
 ·cases h
theorem run_sizeOf' {T : TypeId} {n : Option Nat} (h : szOf P T = some n) (w : World) : (sizeOf T).run P w = .ok (n.getD 1) w:=by
 obtain ⟨u,i,_,hi,hs,_⟩:=szOf_some h
 simp [sizeOf,typeInfo,hi,hs]
theorem run_loadVar1 {T : TypeId} (h : szOf P T = some none) (w : World) (a : Addr) (v : Value) (hc : w.cell? a = some v) : (loadVar T a).run P w = .ok v w:=by
 obtain ⟨u,i,_,hi,hs,hg⟩:=szOf_some h
 simp [loadVar,hg,hc]
theorem run_loadVarN {T : TypeId} {n : Nat} (h : szOf P T = some (some n)) (w : World) (b o : Nat) (us : List Value) (hl : us.length = n) (hc : ∀ j v,us[j]? = some v → w.cell? ⟨b,o + j,none⟩ = some v) :
  (loadVar T ⟨b,o,none⟩).run P w = .ok (.agg us.toArray) w:=by
 obtain ⟨u,i,_,hi,hs,hg⟩:=szOf_some h
 have:=run_loadCells_list (P:=P) w ⟨b,o,none⟩ us (fun j v hj=>by rw [Addr.add_lit]; exact hc j v hj)
 rw [hl] at this
 simp only [loadVar,Sem.run_bind,hg,Result.andThen_ok,Option.isSome_some,if_true,run_sizeOf' h,Option.getD_some,this,Sem.run_pure]
theorem run_storeVar {T : TypeId} {n : Option Nat} (h : szOf P T = some n) (w : World) (b o : Nat) (x : Value) (vs : List Value) (hx : x.cells.toList = vs) (hl : vs.length = n.getD 1) (h1 : ∀ v ∈ vs,v.oneCell' = true)
  (cur : Array Value) (U : TypeId) (hb : w.heap[b]? = some (.cells cur U (0,0))) (hle : o + vs.length ≤ cur.size) :
  (storeVar T ⟨b,o,none⟩ x).run P w = .ok () (w.setRow b (cur.toList.take o ++ vs ++ cur.toList.drop (o + vs.length)).toArray):=by
 have hst:=run_storeCells_at P b o U vs 0 cur w hb (by omega) h1
 have hsz : x.cells.size = n.getD 1:=by rw [← hl,← hx]; simp
 have hne : ¬ (x.cells.size ≠ n.getD 1):=by simp [hsz]
 simp only [storeVar,Sem.run_bind,run_sizeOf' h,Result.andThen_ok,if_neg hne,hx]
 simpa using hst
end
theorem setAll_get {α : Type} (l us : List α) (o : Nat) (h : o + us.length ≤ l.length) (j : Nat) :
  (l.take o ++ us ++ l.drop (o + us.length))[j]? = if o ≤ j ∧ j < o + us.length then us[j - o]? else l[j]?:=by
 have ht : (l.take o).length = o:=by rw [List.length_take]; omega
 by_cases h1 : j < o
 ·rw [if_neg (by omega),List.append_assoc,List.getElem?_append_left (by omega),List.getElem?_take_of_lt h1]
 ·by_cases h2 : j < o + us.length
  ·rw [if_pos ⟨by omega,h2⟩,List.getElem?_append_left (by rw [List.length_append]; omega),List.getElem?_append_right (by omega),ht]
  ·rw [if_neg (by omega),List.getElem?_append_right (by rw [List.length_append]; omega),List.length_append,ht,List.getElem?_drop]
   congr 1
   omega
theorem setAll_length {α : Type} (l us : List α) (o : Nat) (h : o + us.length ≤ l.length) : (l.take o ++ us ++ l.drop (o + us.length)).length = l.length:=by
 simp; omega
theorem setC_get (cs : List D) (o : Nat) (d : D) (n : Option Nat) (h : D.asCok d n) (hle : o + n.getD 1 ≤ cs.length) (j : Nat) :
  (D.setC cs o d n)[j]? = if o ≤ j ∧ j < o + (D.asC d n).length then (D.asC d n)[j - o]? else cs[j]?:=by
 cases n with
 | none=>
  have hle' : o + 1 ≤ cs.length:=hle
  show (cs.set o d)[j]? = if o ≤ j ∧ j < o + [d].length then [d][j - o]? else cs[j]?
  rw [List.getElem?_set]
  by_cases e : o = j
  ·subst e; simp; omega
  ·rw [if_neg e,if_neg (by simp; omega)]
 | some n=>
  have hl : (D.asC d (some n)).length = n:=by
   cases d with
   | agg us=>exact h
   | _=>exact h.elim
  exact setAll_get _ _ _ (by rw [hl]; exact hle) j
theorem asC_length {d : D} {n : Option Nat} (h : D.asCok d n) : (D.asC d n).length = n.getD 1:=by
 cases n with
 | none=>rfl
 | some n=>
  cases d with
  | agg us=>exact h
  | _=>exact h.elim
theorem setC_length (cs : List D) (o : Nat) (d : D) (n : Option Nat) (h : D.asCok d n) (hle : o + n.getD 1 ≤ cs.length) : (D.setC cs o d n).length = cs.length:=by
 cases n with
 | none=>simp [D.setC]
 | some n=>exact setAll_length _ _ _ (by rw [asC_length h]; exact hle)
theorem setC_all (cs : List D) (o : Nat) (d : D) (n : Option Nat) (h : D.asCok d n) (hle : o + n.getD 1 ≤ cs.length) : D.setC cs o d n = D.setAll cs o (D.asC d n):=by
 apply List.ext_getElem?
 intro j
 rw [setC_get _ _ _ _ h hle,D.setAll,setAll_get _ _ _ (by rw [asC_length h]; exact hle)]
theorem fold_set (o : Nat) (l : List Value) : ∀ (k : Nat) (cs : Array Value),o + k + l.length ≤ cs.size →
  ((l.zipIdx k).foldl (fun (c : Array Value) (p : Value × Nat)=>c.setIfInBounds (o + p.2) p.1) cs).toList = cs.toList.take (o + k) ++ l ++ cs.toList.drop (o + k + l.length):=by
 induction l with
 | nil=>intro k cs _; simp
 | cons v l ih=>
  intro k cs h
  rw [List.zipIdx_cons,List.foldl_cons,ih (k + 1) _ (by simp at h ⊢; omega)]
  have e:=list_seg_step cs.toList (o + k) v l (by simp at h ⊢; omega)
  simpa [Array.toList_setIfInBounds,Nat.add_assoc] using e
theorem fill_set (o : Nat) (v cs : Array Value) (h : o + v.size ≤ cs.size) :
  v.zipIdx.foldl (fun cs (c,j)=>cs.setIfInBounds (o + j) c) cs = (cs.toList.take o ++ v.toList ++ cs.toList.drop (o + v.toList.length)).toArray:=by
 apply Array.ext'
 rw [← Array.foldl_toList,Array.toList_zipIdx]
 exact fold_set o v.toList 0 cs (by simpa using h)
theorem flat_get {es : List D} {s : Nat} (hlen : ∀ (e : D),e ∈ es → e.cells.length = s) : ∀ (i j : Nat),j < s → (D.flat es)[i * s + j]? = (es[i]?).bind fun e=>e.cells[j]?:=by
 induction es with
 | nil=>intro i j _; simp [D.flat]
 | cons e es ih=>
  intro i j hj
  have he:=hlen e (List.mem_cons_self ..)
  rw [D.flat,List.flatMap_cons]
  cases i with
  | zero=>rw [List.getElem?_append_left (by rw [he]; omega)]; simp
  | succ i=>
   rw [List.getElem?_append_right (by rw [he,Nat.add_mul]; omega),he]
   have:=ih (fun e he=>hlen e (List.mem_cons_of_mem _ he)) i j hj
   rw [D.flat] at this
   rw [show (i + 1) * s + j - s = i * s + j by rw [Nat.add_mul]; omega,this]
   simp
theorem flat_len {es : List D} {s : Nat} (hlen : ∀ (e : D),e ∈ es → e.cells.length = s) : (D.flat es).length = es.length * s:=by
 induction es with
 | nil=>simp [D.flat]
 | cons e es ih=>
  have:=ih (fun e he=>hlen e (List.mem_cons_of_mem _ he))
  rw [D.flat] at this
  rw [D.flat,List.flatMap_cons,List.length_append,hlen e (List.mem_cons_self ..),this,List.length_cons,Nat.add_mul]
  omega
def fldOf (P : Program) (S f : Nat) : Option (Nat × Option Nat):=
 match P.underlying S with
 | some (.struct fields)=>match fields[f]? with
  | some fd=>match szOf P fd.type with
   | some n=>if n.getD 1 = 0 then none else some (fd.offset,n)
   | none=>none
  | none=>none
 | _=>none
theorem fldOf_some {P : Program} {S f q : Nat} {n : Option Nat} (h : fldOf P S f = some (q,n)) : ∃ fields fd,P.underlying S = some (.struct fields) ∧ fields[f]? = some fd ∧ fd.offset = q ∧ szOf P fd.type = some n ∧ n.getD 1 ≠ 0:=by
 unfold fldOf at h
 split at h
 ·rename_i fields hu
  split at h
  ·rename_i fd hf
   split at h
   ·rename_i m hm
    split at h
    ·cases h
    ·rename_i h0
     obtain ⟨rfl,rfl⟩ : fd.offset = q ∧ m = n:=by simpa using h
     exact ⟨fields,fd,hu,hf,rfl,hm,h0⟩
   ·cases h
  ·cases h
 ·cases h
theorem flat_set {es : List D} {s : Nat} (hlen : ∀ (e : D),e ∈ es → e.cells.length = s) {i : Nat} (hi : i < es.length) {e : D} (he : e.cells.length = s) : D.flat (es.set i e) = D.setAll (D.flat es) (i * s) e.cells:=by
 induction es generalizing i with
 | nil=>simp at hi
 | cons x es ih=>
  have hx:=hlen x (List.mem_cons_self ..)
  cases i with
  | zero=>
   rw [List.set_cons_zero,D.flat,List.flatMap_cons,D.setAll,Nat.zero_mul,List.take_zero,List.nil_append,Nat.zero_add,he,D.flat,List.flatMap_cons,List.drop_append_of_le_length (by omega),List.drop_of_length_le (by omega),List.nil_append]
  | succ i=>
   have:=ih (fun e he=>hlen e (List.mem_cons_of_mem _ he)) (i:=i) (by simpa using hi)
   rw [D.flat,D.flat] at this
   rw [List.set_cons_succ,D.flat,List.flatMap_cons,this,D.flat,List.flatMap_cons,show (i + 1) * s = x.cells.length + i * s by rw [hx,Nat.add_mul]; omega]
   rw [D.setAll,D.setAll,List.take_length_add_append,Nat.add_assoc,List.drop_length_add_append,List.append_assoc,List.append_assoc,List.append_assoc]
theorem flat_append (es fs : List D) : D.flat (es ++ fs) = D.flat es ++ D.flat fs:=by simp [D.flat]
def scalars (P : Program) : Nat → List Field → Option (List Bool)
  | _, [] => some []
  | k, f :: l => if f.name != "_" && f.offset == k then (match P.underlying f.type with
    | some (.int _) => (scalars P (k + 1) l).map fun ks => true :: ks
    | some .bool => (scalars P (k + 1) l).map fun ks => false :: ks
    | _ => none) else none
def flatType (P : Program) (T : TypeId) : Option (List Bool):=
 match P.underlying T with
 | some (.struct fields)=>if !P.stoodInHeld T && !P.eqGuardType P.depth T then scalars P 0 fields.toList else none
 | _=>none
end
end Go.Proofs.Ytclkehekhdfnnaa
