/-
  What a value of the program is as plain data, where its memory lies, and how memory may change beside it. Plain definitions and their laws; no condition.
-/
import Derived.Calls
import Derived.Orders
import Derived.Below
import Derived.KernelRfl
import Derived.Laws.AppendOwn
import Derived.Laws.Alloc2
import Derived.Laws.MakeOwn
namespace Go.Proofs.Ytimpofjjndbofaa
open Go.RowKit

/-- Plain data. 'any' says nothing; 'v' is a value without memory; 'sl' a slice whose cells stand still, 'nul' one without cells; 'ptr' a pointer to cells that stand still. 'ref' is a pointer to a cell of a named block, 'own' the slice of the first n elements of a named row, 'eref' a pointer into an element of one. 'obj' and 'row' are what named blocks hold; 'free' is a name that names nothing. -/
inductive D where
  | any
  | v (x : Value)
  | sl (s : Nat) (es : List D)
  | nul
  | agg (cs : List D)
  | tup (ps : List D)
  | ifc (t : TypeId) (d : D)
  | fn (f : FuncId) (caps : List D)
  | ptr (cs : List D)
  | ref (g o : Nat)
  | own (g s n : Nat)
  | eref (g s i o : Nat)
  | obj (cs : List D)
  | row (s : Nat) (es : List D)
  | free

namespace D
/-- The cells that a datum takes. -/
def cells : D → List D
  | agg cs => cs
  | d => [d]
/-- The cells of a row of data. -/
def flat (es : List D) : List D := es.flatMap cells
def isBlk : D → Bool
  | obj _ => true
  | row _ _ => true
  | _ => false
end D

/-- Names begin here; slots lie below. -/
abbrev nb : Nat := 1000000

abbrev Cells := Nat → Nat → Prop
/-- Where a named block lies; 'some none': nowhere, an empty row. -/
abbrev Names := Nat → Option (Option Nat)
def noNames : Names := fun _ => none

/-- The datum d stands in x: what stands still lies in the cells F, the names lie where m says. -/
inductive Fz (w : World) (F : Cells) : Names → D → Value → Prop where
  | any (m : Names) (x : Value) : Fz w F m .any x
  | v (m : Names) (x : Value) : Fz w F m (.v x) x
  | sl0 (m : Names) (s : Nat) (a : Option Addr) (cap : Nat) : Fz w F m (.sl s []) (.slice a 0 cap)
  | sl (m : Names) (s : Nat) (es : List D) (b off cap : Nat) (u : Nat → Value) (hs : 0 < s) (hle : es.length ≤ cap) (hlen : ∀ (e : D), e ∈ es → e.cells.length = s)
      (hu : ∀ k, k < es.length * s → w.cell? ⟨b, off + k, none⟩ = some (u k) ∧ F b (off + k) ∧ (u k).oneCell' = true)
      (hr : ∀ (k : Nat) (d : D), (D.flat es)[k]? = some d → Fz w F noNames d (u k)) : Fz w F m (.sl s es) (.slice (some ⟨b, off, none⟩) es.length cap)
  | nul (m : Names) (a : Option Addr) : Fz w F m .nul (.slice a 0 0)
  | agg (m : Names) (cs : List D) (us : List Value) (hl : us.length = cs.length) (h1 : ∀ (u : Value), u ∈ us → u.oneCell' = true) (hr : ∀ (i : Nat) (d : D) (u : Value), cs[i]? = some d → us[i]? = some u → Fz w F m d u) : Fz w F m (.agg cs) (.agg us.toArray)
  | tup (m : Names) (cs : List D) (us : List Value) (hl : us.length = cs.length) (hr : ∀ (i : Nat) (d : D) (u : Value), cs[i]? = some d → us[i]? = some u → Fz w F m d u) : Fz w F m (.tup cs) (.tuple us.toArray)
  | ifc (m : Names) (t : TypeId) (d : D) (x : Value) (h : Fz w F m d x) : Fz w F m (.ifc t d) (.iface t x)
  | fn (m : Names) (f : FuncId) (cs : List D) (us : List Value) (hl : us.length = cs.length) (hr : ∀ (i : Nat) (d : D) (u : Value), cs[i]? = some d → us[i]? = some u → Fz w F m d u) : Fz w F m (.fn f cs) (.func (.func f) #[] us.toArray)
  | ptr (m : Names) (cs : List D) (b off : Nat) (u : Nat → Value) (hu : ∀ k, k < cs.length → w.cell? ⟨b, off + k, none⟩ = some (u k) ∧ F b (off + k) ∧ (u k).oneCell' = true)
      (hr : ∀ (k : Nat) (d : D), cs[k]? = some d → Fz w F noNames d (u k)) : Fz w F m (.ptr cs) (.pointer (some ⟨b, off, none⟩))
  | ref (m : Names) (g o b : Nat) (hg : m g = some (some b)) : Fz w F m (.ref g o) (.pointer (some ⟨b, o, none⟩))
  | own (m : Names) (g s n b cap : Nat) (cur : Array Value) (T : TypeId) (hg : m g = some (some b)) (hs : 0 < s) (hle : n ≤ cap) (hb : w.heap[b]? = some (.cells cur T (0, 0))) (hcap : cap * s ≤ cur.size) :
      Fz w F m (.own g s n) (.slice (some ⟨b, 0, none⟩) n cap)
  | own0 (m : Names) (g s : Nat) (a : Option Addr) (hg : m g = some none) : Fz w F m (.own g s 0) (.slice a 0 0)
  | eref (m : Names) (g s i o b : Nat) (hg : m g = some (some b)) : Fz w F m (.eref g s i o) (.pointer (some ⟨b, i * s + o, none⟩))

abbrev Blocks := Nat → Prop
def noBlocks : Blocks := fun _ => False

/-- How memory may change: what stands still (F) goes on standing still; of what was there only the blocks T may change, and not in shape; and nothing of what was there beyond T begins to stand still. -/
structure Chg (w : World) (F : Cells) (T : Blocks) (w' : World) (F' : Cells) : Prop where
  os : w'.os = w.os
  tape : w'.tape = w.tape
  output : w'.output = w.output
  size : w.heap.size ≤ w'.heap.size
  block : ∀ b, b < w.heap.size → ¬ T b → w'.heap[b]? = w.heap[b]?
  shape : ∀ (b : Nat) (cur : Array Value) (U : TypeId) (z : Nat × Nat), w.heap[b]? = some (Obj.cells cur U z) → ∃ cur' : Array Value, w'.heap[b]? = some (Obj.cells cur' U z) ∧ cur'.size = cur.size
  keep : ∀ b o, F b o → F' b o ∧ w'.cell? ⟨b, o, none⟩ = w.cell? ⟨b, o, none⟩
  back : ∀ b o, F' b o → b < w.heap.size → ¬ T b → F b o

theorem Chg.refl (w : World) (F : Cells) (T : Blocks) : Chg w F T w F := ⟨rfl, rfl, rfl, Nat.le_refl _, fun _ _ _ => rfl, fun _ cur _ _ h => ⟨cur, h, rfl⟩, fun _ _ h => ⟨h, rfl⟩, fun _ _ h _ _ => h⟩

theorem Chg.trans {w w1 w2 : World} {F F1 F2 : Cells} {T T1 : Blocks} (h : Chg w F T w1 F1) (h1 : Chg w1 F1 T1 w2 F2) (hT : ∀ k, T1 k → k < w.heap.size → T k) : Chg w F T w2 F2 where
  os := h1.os.trans h.os
  tape := h1.tape.trans h.tape
  output := h1.output.trans h.output
  size := Nat.le_trans h.size h1.size
  block b hb hn := (h1.block b (Nat.lt_of_lt_of_le hb h.size) (fun ht => hn (hT b ht hb))).trans (h.block b hb hn)
  shape b cur U z hb := by
    obtain ⟨c1, hb1, hs1⟩ := h.shape b cur U z hb
    obtain ⟨c2, hb2, hs2⟩ := h1.shape b c1 U z hb1
    exact ⟨c2, hb2, hs2.trans hs1⟩
  keep b o hf := ⟨(h1.keep b o (h.keep b o hf).1).1, (h1.keep b o (h.keep b o hf).1).2.trans (h.keep b o hf).2⟩
  back b o hf hb hn := h.back b o (h1.back b o hf (Nat.lt_of_lt_of_le hb h.size) (fun ht => hn (hT b ht hb))) hb hn

theorem Chg.mono {w w' : World} {F F' : Cells} {T T' : Blocks} (h : Chg w F T w' F') (hT : ∀ k, T k → T' k) : Chg w F T' w' F' :=
  ⟨h.os, h.tape, h.output, h.size, fun b hb hn => h.block b hb (fun ht => hn (hT b ht)), h.shape, h.keep, fun b o hf hb hn => h.back b o hf hb (fun ht => hn (hT b ht))⟩

theorem Chg.drew {w w' : World} {F F' : Cells} {T : Blocks} (h : Chg w F T w' F') : Chg w F T w'.drew F' :=
  ⟨h.os, h.tape, h.output, h.size, h.block, h.shape, h.keep, h.back⟩

theorem Fz.stable {w w' : World} {F F' : Cells} {T : Blocks} (c : Chg w F T w' F') {m : Names} {d : D} {x : Value} (h : Fz w F m d x) : ∀ {m' : Names}, (∀ g p, m g = some p → m' g = some p) → Fz w' F' m' d x := by
  induction h with
  | any m x => intro m' _; exact .any m' x
  | v m x => intro m' _; exact .v m' x
  | sl0 m s a cap => intro m' _; exact .sl0 m' s a cap
  | sl m s es b off cap u hs hle hlen hu hr ih =>
    intro m' _
    exact .sl m' s es b off cap u hs hle hlen (fun k hk => ⟨(c.keep _ _ (hu k hk).2.1).2.trans (hu k hk).1, (c.keep _ _ (hu k hk).2.1).1, (hu k hk).2.2⟩) (fun k d hd => ih k d hd (fun _ _ h => h))
  | nul m a => intro m' _; exact .nul m' a
  | agg m cs us hl h1 hr ih => intro m' hm; exact .agg m' cs us hl h1 (fun i d u hd hu => ih i d u hd hu hm)
  | tup m cs us hl hr ih => intro m' hm; exact .tup m' cs us hl (fun i d u hd hu => ih i d u hd hu hm)
  | ifc m t d x h ih => intro m' hm; exact .ifc m' t d x (ih hm)
  | fn m f cs us hl hr ih => intro m' hm; exact .fn m' f cs us hl (fun i d u hd hu => ih i d u hd hu hm)
  | ptr m cs b off u hu hr ih =>
    intro m' _
    exact .ptr m' cs b off u (fun k hk => ⟨(c.keep _ _ (hu k hk).2.1).2.trans (hu k hk).1, (c.keep _ _ (hu k hk).2.1).1, (hu k hk).2.2⟩) (fun k d hd => ih k d hd (fun _ _ h => h))
  | ref m g o b hg => intro m' hm; exact .ref m' g o b (hm g _ hg)
  | own m g s n b cap cur U hg hs hle hb hcap =>
    intro m' hm
    obtain ⟨cur', hb', hsz⟩ := c.shape b cur U (0, 0) hb
    exact .own m' g s n b cap cur' U (hm g _ hg) hs hle hb' (by rw [hsz]; exact hcap)
  | own0 m g s a hg => intro m' hm; exact .own0 m' g s a (hm g _ hg)
  | eref m g s i o b hg => intro m' hm; exact .eref m' g s i o b (hm g _ hg)

theorem Fz.names {w : World} {F : Cells} {m m' : Names} {d : D} {x : Value} (h : Fz w F m d x) (hm : ∀ g p, m g = some p → m' g = some p) : Fz w F m' d x := h.stable (Chg.refl w F noBlocks) hm
theorem Fz.still {w w' : World} {F F' : Cells} {T : Blocks} (c : Chg w F T w' F') {m : Names} {d : D} {x : Value} (h : Fz w F m d x) : Fz w' F' m d x := h.stable c (fun _ _ h => h)

mutual
/-- No name stands in it. -/
def D.pur : D → Bool
  | .any => true
  | .v _ => true
  | .sl _ _ => true
  | .nul => true
  | .agg cs => D.purL cs
  | .tup cs => D.purL cs
  | .ifc _ d => D.pur d
  | .fn _ cs => D.purL cs
  | .ptr _ => true
  | _ => false
def D.purL : List D → Bool
  | [] => true
  | d :: l => D.pur d && D.purL l
end
theorem D.purL_iff : ∀ {l : List D}, D.purL l = true ↔ ∀ d, d ∈ l → d.pur = true
  | [] => by simp [D.purL]
  | d :: l => by rw [D.purL, Bool.and_eq_true, D.purL_iff (l := l)]; simp

theorem Fz.pure {w : World} {F : Cells} {m : Names} {d : D} {x : Value} (h : Fz w F m d x) : d.pur = true → ∀ m', Fz w F m' d x := by
  induction h with
  | any m x => intro _ m'; exact .any m' x
  | v m x => intro _ m'; exact .v m' x
  | sl0 m s a cap => intro _ m'; exact .sl0 m' s a cap
  | sl m s es b off cap u hs hle hlen hu hr ih => intro _ m'; exact .sl m' s es b off cap u hs hle hlen hu hr
  | nul m a => intro _ m'; exact .nul m' a
  | agg m cs us hl h1 hr ih => intro hp m'; exact .agg m' cs us hl h1 (fun i d u hd hu => ih i d u hd hu (D.purL_iff.1 hp d (List.mem_of_getElem? hd)) m')
  | tup m cs us hl hr ih => intro hp m'; exact .tup m' cs us hl (fun i d u hd hu => ih i d u hd hu (D.purL_iff.1 hp d (List.mem_of_getElem? hd)) m')
  | ifc m t d x h ih => intro hp m'; exact .ifc m' t d x (ih hp m')
  | fn m f cs us hl hr ih => intro hp m'; exact .fn m' f cs us hl (fun i d u hd hu => ih i d u hd hu (D.purL_iff.1 hp d (List.mem_of_getElem? hd)) m')
  | ptr m cs b off u hu hr ih => intro _ m'; exact .ptr m' cs b off u hu hr
  | ref m g o b hg => intro hp; cases hp
  | own m g s n b cap cur U hg hs hle hb hcap => intro hp; cases hp
  | own0 m g s a hg => intro hp; cases hp
  | eref m g s i o b hg => intro hp; cases hp

/-- The name behind a name of a list's. -/
def nameOf (L : List Nat) (g : Nat) : Option Nat := if g < nb then none else L[g - nb]?
mutual
/-- The same, its names told by a list. -/
def D.ren (L : List Nat) : D → D
  | .any => .any
  | .v x => .v x
  | .sl s es => .sl s es
  | .nul => .nul
  | .agg cs => .agg (D.renL L cs)
  | .tup cs => .tup (D.renL L cs)
  | .ifc t d => .ifc t (D.ren L d)
  | .fn f cs => .fn f (D.renL L cs)
  | .ptr cs => .ptr cs
  | .ref g o => match nameOf L g with
    | some g' => .ref g' o
    | none => .free
  | .own g s n => match nameOf L g with
    | some g' => .own g' s n
    | none => .free
  | .eref g s i o => match nameOf L g with
    | some g' => .eref g' s i o
    | none => .free
  | .obj cs => .obj (D.renL L cs)
  | .row s es => .row s (D.renL L es)
  | .free => .free
def D.renL (L : List Nat) : List D → List D
  | [] => []
  | d :: l => D.ren L d :: D.renL L l
end
theorem D.renL_map (L : List Nat) : ∀ l : List D, D.renL L l = l.map (D.ren L)
  | [] => rfl
  | d :: l => by rw [D.renL, D.renL_map L l]; rfl

theorem Fz.ren {w : World} {F : Cells} {m : Names} {d : D} {x : Value} (h : Fz w F m d x) : ∀ {m' : Names} {L : List Nat}, (∀ g p, m g = some p → ∃ g', nameOf L g = some g' ∧ m' g' = some p) → Fz w F m' (d.ren L) x := by
  have cs_at : ∀ {L : List Nat} {cs : List D} {i : Nat} {d : D}, (D.renL L cs)[i]? = some d → ∃ e, cs[i]? = some e ∧ d = e.ren L := by
    intro L cs i d hd
    rw [D.renL_map, List.getElem?_map] at hd
    cases hc : cs[i]? with
    | none => rw [hc] at hd; cases hd
    | some e => rw [hc] at hd; exact ⟨e, rfl, by simpa using hd.symm⟩
  induction h with
  | any m x => intro m' L _; exact .any m' x
  | v m x => intro m' L _; exact .v m' x
  | sl0 m s a cap => intro m' L _; exact .sl0 m' s a cap
  | sl m s es b off cap u hs hle hlen hu hr ih => intro m' L _; exact .sl m' s es b off cap u hs hle hlen hu hr
  | nul m a => intro m' L _; exact .nul m' a
  | agg m cs us hl h1 hr ih =>
    intro m' L hm
    rw [D.ren]
    exact .agg m' _ us (by rw [D.renL_map, List.length_map]; exact hl) h1 (fun i d u hd hu => by obtain ⟨e, he, rfl⟩ := cs_at hd; exact ih i e u he hu hm)
  | tup m cs us hl hr ih =>
    intro m' L hm
    rw [D.ren]
    exact .tup m' _ us (by rw [D.renL_map, List.length_map]; exact hl) (fun i d u hd hu => by obtain ⟨e, he, rfl⟩ := cs_at hd; exact ih i e u he hu hm)
  | ifc m t d x h ih => intro m' L hm; exact .ifc m' t _ x (ih hm)
  | fn m f cs us hl hr ih =>
    intro m' L hm
    rw [D.ren]
    exact .fn m' f _ us (by rw [D.renL_map, List.length_map]; exact hl) (fun i d u hd hu => by obtain ⟨e, he, rfl⟩ := cs_at hd; exact ih i e u he hu hm)
  | ptr m cs b off u hu hr ih => intro m' L _; exact .ptr m' cs b off u hu hr
  | ref m g o b hg =>
    intro m' L hm
    obtain ⟨g', h1, h2⟩ := hm g _ hg
    rw [D.ren, h1]
    exact .ref m' g' o b h2
  | own m g s n b cap cur U hg hs hle hb hcap =>
    intro m' L hm
    obtain ⟨g', h1, h2⟩ := hm g _ hg
    rw [D.ren, h1]
    exact .own m' g' s n b cap cur U h2 hs hle hb hcap
  | own0 m g s a hg =>
    intro m' L hm
    obtain ⟨g', h1, h2⟩ := hm g _ hg
    rw [D.ren, h1]
    exact .own0 m' g' s a h2
  | eref m g s i o b hg =>
    intro m' L hm
    obtain ⟨g', h1, h2⟩ := hm g _ hg
    rw [D.ren, h1]
    exact .eref m' g' s i o b h2

theorem Fz.unren {w : World} {F : Cells} {m : Names} {d' : D} {x : Value} (h : Fz w F m d' x) : ∀ {m' : Names} {L : List Nat}, (∀ g g', nameOf L g = some g' → m' g = m g') → ∀ {d : D}, d.ren L = d' → Fz w F m' d x := by
  have cs_at : ∀ {L : List Nat} {cs : List D} {i : Nat} {d : D}, cs[i]? = some d → (D.renL L cs)[i]? = some (d.ren L) := by
    intro L cs i d hd
    rw [D.renL_map, List.getElem?_map, hd]
    rfl
  have nm : ∀ {L : List Nat} {g : Nat} {f : Nat → D} {e : D}, (match nameOf L g with
      | some g' => f g'
      | none => .free) = e → e ≠ .free → ∃ g', nameOf L g = some g' ∧ f g' = e := by
    intro L g f e he hne
    cases hg : nameOf L g with
    | none => rw [hg] at he; exact absurd he.symm hne
    | some g' => rw [hg] at he; exact ⟨g', rfl, he⟩
  induction h with
  | any m x => intro m' L _ d he; cases d <;> first | exact .any m' x | (rw [D.ren] at he; first | (cases he; done) | (obtain ⟨_, _, h⟩ := nm he (by intro h; cases h); cases h))
  | v m x => intro m' L _ d he; cases d <;> rw [D.ren] at he <;> first | (cases he; exact .v m' x) | (cases he; done) | (obtain ⟨_, _, h⟩ := nm he (by intro h; cases h); cases h)
  | sl0 m s a cap => intro m' L _ d he; cases d <;> rw [D.ren] at he <;> first | (cases he; exact .sl0 m' s a cap) | (cases he; done) | (obtain ⟨_, _, h⟩ := nm he (by intro h; cases h); cases h)
  | sl m s es b off cap u hs hle hlen hu hr ih => intro m' L _ d he; cases d <;> rw [D.ren] at he <;> first | (cases he; exact .sl m' s es b off cap u hs hle hlen hu hr) | (cases he; done) | (obtain ⟨_, _, h⟩ := nm he (by intro h; cases h); cases h)
  | nul m a => intro m' L _ d he; cases d <;> first | exact .nul m' a | (rw [D.ren] at he; first | (cases he; done) | (obtain ⟨_, _, h⟩ := nm he (by intro h; cases h); cases h))
  | agg m cs us hl h1 hr ih =>
    intro m' L hm d he
    cases d with
    | agg cs0 =>
      rw [D.ren] at he
      obtain rfl : D.renL L cs0 = cs := by injection he
      exact .agg m' cs0 us (by rw [hl, D.renL_map, List.length_map]) h1 (fun i d u hd hu => ih i _ u (cs_at hd) hu hm rfl)
    | _ => rw [D.ren] at he; first | (cases he; done) | (obtain ⟨_, _, h⟩ := nm he (by intro h; cases h); cases h)
  | tup m cs us hl hr ih =>
    intro m' L hm d he
    cases d with
    | tup cs0 =>
      rw [D.ren] at he
      obtain rfl : D.renL L cs0 = cs := by injection he
      exact .tup m' cs0 us (by rw [hl, D.renL_map, List.length_map]) (fun i d u hd hu => ih i _ u (cs_at hd) hu hm rfl)
    | _ => rw [D.ren] at he; first | (cases he; done) | (obtain ⟨_, _, h⟩ := nm he (by intro h; cases h); cases h)
  | ifc m t d0 x h ih =>
    intro m' L hm d he
    cases d with
    | ifc t' d1 =>
      rw [D.ren] at he
      obtain ⟨rfl, h1⟩ : t' = t ∧ d1.ren L = d0 := by injection he with h1 h2; exact ⟨h1, h2⟩
      exact .ifc m' t' d1 x (ih hm h1)
    | _ => rw [D.ren] at he; first | (cases he; done) | (obtain ⟨_, _, h⟩ := nm he (by intro h; cases h); cases h)
  | fn m f cs us hl hr ih =>
    intro m' L hm d he
    cases d with
    | fn f' cs0 =>
      rw [D.ren] at he
      obtain ⟨rfl, rfl⟩ : f' = f ∧ D.renL L cs0 = cs := by injection he with h1 h2; exact ⟨h1, h2⟩
      exact .fn m' f' cs0 us (by rw [hl, D.renL_map, List.length_map]) (fun i d u hd hu => ih i _ u (cs_at hd) hu hm rfl)
    | _ => rw [D.ren] at he; first | (cases he; done) | (obtain ⟨_, _, h⟩ := nm he (by intro h; cases h); cases h)
  | ptr m cs b off u hu hr ih => intro m' L _ d he; cases d <;> rw [D.ren] at he <;> first | (cases he; exact .ptr m' cs b off u hu hr) | (cases he; done) | (obtain ⟨_, _, h⟩ := nm he (by intro h; cases h); cases h)
  | ref m g o b hg =>
    intro m' L hm d he
    cases d with
    | ref g0 o0 =>
      rw [D.ren] at he
      obtain ⟨g', h1, h2⟩ := nm he (by intro h; cases h)
      obtain ⟨rfl, rfl⟩ : g' = g ∧ o0 = o := by injection h2 with h2 h3; exact ⟨h2, h3⟩
      exact .ref m' g0 o0 b ((hm g0 g' h1).trans hg)
    | _ => rw [D.ren] at he; first | (cases he; done) | (obtain ⟨_, _, h⟩ := nm he (by intro h; cases h); cases h)
  | own m g s n b cap cur U hg hs hle hb hcap =>
    intro m' L hm d he
    cases d with
    | own g0 s0 n0 =>
      rw [D.ren] at he
      obtain ⟨g', h1, h2⟩ := nm he (by intro h; cases h)
      obtain ⟨rfl, rfl, rfl⟩ : g' = g ∧ s0 = s ∧ n0 = n := by injection h2 with h2 h3 h4; exact ⟨h2, h3, h4⟩
      exact .own m' g0 s0 n0 b cap cur U ((hm g0 g' h1).trans hg) hs hle hb hcap
    | _ => rw [D.ren] at he; first | (cases he; done) | (obtain ⟨_, _, h⟩ := nm he (by intro h; cases h); cases h)
  | own0 m g s a hg =>
    intro m' L hm d he
    cases d with
    | own g0 s0 n0 =>
      rw [D.ren] at he
      obtain ⟨g', h1, h2⟩ := nm he (by intro h; cases h)
      obtain ⟨rfl, rfl, rfl⟩ : g' = g ∧ s0 = s ∧ n0 = 0 := by injection h2 with h2 h3 h4; exact ⟨h2, h3, h4⟩
      exact .own0 m' g0 s0 a ((hm g0 g' h1).trans hg)
    | _ => rw [D.ren] at he; first | (cases he; done) | (obtain ⟨_, _, h⟩ := nm he (by intro h; cases h); cases h)
  | eref m g s i o b hg =>
    intro m' L hm d he
    cases d with
    | eref g0 s0 i0 o0 =>
      rw [D.ren] at he
      obtain ⟨g', h1, h2⟩ := nm he (by intro h; cases h)
      obtain ⟨rfl, rfl, rfl, rfl⟩ : g' = g ∧ s0 = s ∧ i0 = i ∧ o0 = o := by injection h2 with h2 h3 h4 h5; exact ⟨h2, h3, h4, h5⟩
      exact .eref m' g0 s0 i0 o0 b ((hm g0 g' h1).trans hg)
    | _ => rw [D.ren] at he; first | (cases he; done) | (obtain ⟨_, _, h⟩ := nm he (by intro h; cases h); cases h)

/-- Cells, as data and as values. -/
structure CellsOK (w : World) (F : Cells) (m : Names) (cs : List D) (us : List Value) : Prop where
  len : us.length = cs.length
  one : ∀ u, u ∈ us → u.oneCell' = true
  fz : ∀ (j : Nat) (d : D) (u : Value), cs[j]? = some d → us[j]? = some u → Fz w F m d u

theorem CellsOK.stable {w w' : World} {F F' : Cells} {T : Blocks} (c : Chg w F T w' F') {m m' : Names} {cs : List D} {us : List Value} (h : CellsOK w F m cs us) (hm : ∀ g p, m g = some p → m' g = some p) : CellsOK w' F' m' cs us :=
  ⟨h.len, h.one, fun j d u hd hu => (h.fz j d u hd hu).stable c hm⟩

/-- What a named block holds. -/
def Blk (w : World) (F : Cells) (m : Names) (g : Nat) : D → Prop
  | .obj cs => ∃ b cur T, m g = some (some b) ∧ w.heap[b]? = some (.cells cur T (0, 0)) ∧ CellsOK w F m cs cur.toList ∧ ∀ o, ¬ F b o
  | .row s es => (es = [] ∧ m g = some none) ∨ ∃ b cur T, m g = some (some b) ∧ w.heap[b]? = some (.cells cur T (0, 0)) ∧ 0 < s ∧ (∀ (e : D), e ∈ es → e.cells.length = s) ∧ es.length * s ≤ cur.size ∧ CellsOK w F m (D.flat es) (cur.toList.take (es.length * s)) ∧ ∀ o, ¬ F b o
  | .free => m g = none
  | .any => True
  | _ => False

theorem Blk.stable {w w' : World} {F F' : Cells} {T : Blocks} (c : Chg w F T w' F') {m m' : Names} {g : Nat} {d : D} (h : Blk w F m g d) (hm : ∀ g p, m g = some p → m' g = some p) (hfree : d = .free → m' g = none) (hT : ∀ b, d.isBlk = true → m g = some (some b) → ¬ T b) : Blk w' F' m' g d := by
  cases d with
  | obj cs =>
    obtain ⟨b, cur, U, hg, hb, hc, hF⟩ := h
    have hlt := (Array.getElem?_eq_some_iff.1 hb).1
    exact ⟨b, cur, U, hm g _ hg, (c.block b hlt (hT b rfl hg)).trans hb, hc.stable c hm, fun o ho => hF o (c.back b o ho hlt (hT b rfl hg))⟩
  | row s es =>
    rcases h with ⟨h1, h2⟩ | ⟨b, cur, U, hg, hb, hs, hl, hsz, hc, hF⟩
    · exact .inl ⟨h1, hm g _ h2⟩
    · have hlt := (Array.getElem?_eq_some_iff.1 hb).1
      exact .inr ⟨b, cur, U, hm g _ hg, (c.block b hlt (hT b rfl hg)).trans hb, hs, hl, hsz, hc.stable c hm, fun o ho => hF o (c.back b o ho hlt (hT b rfl hg))⟩
  | free => exact hfree rfl
  | any => trivial
  | _ => exact h.elim

theorem Blk.lt {w : World} {F : Cells} {m : Names} {g b : Nat} {d : D} (h : Blk w F m g d) (hd : d.isBlk = true) (hg : m g = some (some b)) : b < w.heap.size := by
  cases d with
  | obj cs =>
    obtain ⟨b', cur, U, hg', hb, _⟩ := h
    obtain rfl : b = b' := by rw [hg] at hg'; simpa using hg'
    exact (Array.getElem?_eq_some_iff.1 hb).1
  | row s es =>
    rcases h with ⟨_, h2⟩ | ⟨b', cur, U, hg', hb, _⟩
    · rw [hg] at h2; cases h2
    · obtain rfl : b = b' := by rw [hg] at hg'; simpa using hg'
      exact (Array.getElem?_eq_some_iff.1 hb).1
  | _ => cases hd

theorem Blk.nof {w : World} {F : Cells} {m : Names} {g b : Nat} {d : D} (h : Blk w F m g d) (hd : d.isBlk = true) (hg : m g = some (some b)) (o : Nat) : ¬ F b o := by
  cases d with
  | obj cs =>
    obtain ⟨b', cur, U, hg', hb, _, hF⟩ := h
    obtain rfl : b = b' := by rw [hg] at hg'; simpa using hg'
    exact hF o
  | row s es =>
    rcases h with ⟨_, h2⟩ | ⟨b', cur, U, hg', hb, _, _, _, _, hF⟩
    · rw [hg] at h2; cases h2
    · obtain rfl : b = b' := by rw [hg] at hg'; simpa using hg'
      exact hF o
  | _ => cases hd

end Go.Proofs.Ytimpofjjndbofaa
