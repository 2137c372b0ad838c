/-
  Atoms, facts and rules as plain data, and those that come in. No condition.
-/
import Derived.Test.YtenbhgkfbjfocaaVGateI
set_option maxHeartbeats 4000000
set_option maxRecDepth 100000
namespace Go.Proofs.Ytenbhgkfbjfocaa
open Go.ChangeShapes Go.WideShapes Go.ChangeAt Go.RowKit Go.Joins Go.Deep

/-- An atom or a fact. -/
structure Tr where
  r : Int
  x : Int
  y : Int
def trD (t : Tr) : D := .agg [I t.r, I t.x, I t.y]
def trsD (l : List Tr) : D := .sl 3 (l.map trD)
theorem trs_pur : ∀ l : List Tr, D.purL (l.map trD) = true
  | [] => rfl
  | p :: l => by rw [List.map_cons, D.purL, trs_pur l]; rfl
theorem trs_ren (L : List Nat) (l : List Tr) : D.renL L (l.map trD) = l.map trD := ren_pure.renL_pure L _ (trs_pur l)
theorem ints_pur : ∀ l : List Int, D.purL (l.map I) = true
  | [] => rfl
  | p :: l => by rw [List.map_cons, D.purL, ints_pur l]; rfl
theorem ints_ren (L : List Nat) (l : List Int) : D.renL L (l.map I) = l.map I := ren_pure.renL_pure L _ (ints_pur l)
attribute [go_sem] trs_pur trs_ren ints_pur ints_ren trsD trD intsD
/-- A query. -/
structure Ru where
  n : Int
  h : List Int
  b : List Tr
def ruD (q : Ru) : D := .agg [I q.n, intsD q.h, trsD q.b]
attribute [go_sem] ruD
def Ru.most (q : Ru) : Prop := q.h.length ≤ big ∧ q.b.length ≤ big

theorem cells_LA : Try.prog.cellsOf 65 = 3 := by kernel_rfl
theorem cells_LF : Try.prog.cellsOf 56 = 3 := by kernel_rfl
theorem cells_LR : Try.prog.cellsOf 25 = 3 := by kernel_rfl
section
variable {H : Type} {enc : TypeId × Value → H} {W : World} {base b0 : Nat} {held : Bool} {r : Reach} {v : Value} {d : DataW H} {p : List MemPlace}
set_option maxRecDepth 100000 in
theorem trod_At {fuel : Nat} {cs : List Value} {x : DataW H × List MemPlace} {spare : Nat → Bool} (h : DataW.trod enc Try.prog W base spare held fuel 65 cs = some x) :
    ∃ u : Tr, CellsOK W (allOf W) noNames [I u.r, I u.x, I u.y] cs := by
  obtain ⟨y0, y1, y2, n, _, hl, h0, h1, h2⟩ := trod_3 Try.underlying65 h
  rw [cells_LA] at hl
  match cs, hl with
  | [c0, c1, c2], _ =>
    simp only [cells_int, List.drop_zero, List.drop_succ_cons, List.take_succ_cons, List.take_zero] at h0 h1 h2
    obtain ⟨k0, q0⟩ := int_fz Try.underlying3 h0
    obtain ⟨k1, q1⟩ := int_fz Try.underlying3 h1
    obtain ⟨k2, q2⟩ := int_fz Try.underlying3 h2
    exact ⟨⟨k0, k1, k2⟩, q0.append (q1.append q2)⟩
set_option maxRecDepth 100000 in
theorem trod_Fa {fuel : Nat} {cs : List Value} {x : DataW H × List MemPlace} {spare : Nat → Bool} (h : DataW.trod enc Try.prog W base spare held fuel 56 cs = some x) :
    ∃ u : Tr, CellsOK W (allOf W) noNames [I u.r, I u.x, I u.y] cs := by
  obtain ⟨y0, y1, y2, n, _, hl, h0, h1, h2⟩ := trod_3 Try.underlying56 h
  rw [cells_LF] at hl
  match cs, hl with
  | [c0, c1, c2], _ =>
    simp only [cells_int, List.drop_zero, List.drop_succ_cons, List.take_succ_cons, List.take_zero] at h0 h1 h2
    obtain ⟨k0, q0⟩ := int_fz Try.underlying3 h0
    obtain ⟨k1, q1⟩ := int_fz Try.underlying3 h1
    obtain ⟨k2, q2⟩ := int_fz Try.underlying3 h2
    exact ⟨⟨k0, k1, k2⟩, q0.append (q1.append q2)⟩
set_option maxRecDepth 100000 in
theorem trod_Ats {fuel : Nat} {cs : List Value} {x : DataW H × List MemPlace} (h : DataW.trod enc Try.prog W base (fun _ => true) held fuel 23 cs = some x) :
    ∃ l : List Tr, l.length ≤ big ∧ CellsOK W (allOf W) noNames [trsD l] cs := by
  obtain ⟨l, _, hlen, q⟩ := slice_fz Try.underlying23 cells_LA (by decide) trD (fun _ => True) h (fun n' _ cs' x' h' => by
    obtain ⟨m, hm⟩ := trod_At h'
    exact ⟨m, rfl, hm, trivial⟩)
  exact ⟨l, hlen, q⟩
set_option maxRecDepth 100000 in
theorem trod_Fas {fuel : Nat} {cs : List Value} {x : DataW H × List MemPlace} (h : DataW.trod enc Try.prog W base (fun _ => true) held fuel 34 cs = some x) :
    ∃ l : List Tr, l.length ≤ big ∧ CellsOK W (allOf W) noNames [trsD l] cs := by
  obtain ⟨l, _, hlen, q⟩ := slice_fz Try.underlying34 cells_LF (by decide) trD (fun _ => True) h (fun n' _ cs' x' h' => by
    obtain ⟨m, hm⟩ := trod_Fa h'
    exact ⟨m, rfl, hm, trivial⟩)
  exact ⟨l, hlen, q⟩
/-- Facts that came in. -/
def IsFas (w : World) (v : Value) (l : List Tr) : Prop := l.length ≤ big ∧ Fz w (allOf w) noNames (trsD l) v
set_option maxRecDepth 100000 in
theorem open_pFas (hv : Value.okWide Try.prog W r b0 34 v) (h : DataW.Trod enc Try.prog W base (fun _ => true) held 34 v d p) (_lt : ∀ x ∈ p, x.block < W.heap.size) :
    ∃ l : List Tr, IsFas W v l := by
  obtain ⟨a0, len0, cap0, rfl⟩ := okWide_slice Try.underlying34 hv
  obtain ⟨fuel, hf⟩ := h
  obtain ⟨l, hlen, q⟩ := trod_Fas hf
  exact ⟨l, hlen, CellsOK.fz1 q⟩
/-- A query that came in. -/
def IsRu (w : World) (v : Value) (q : Ru) : Prop := q.most ∧ Fz w (allOf w) noNames (ruD q) v
set_option maxRecDepth 100000 in
theorem open_pRu (hv : Value.okWide Try.prog W r b0 25 v) (h : DataW.Trod enc Try.prog W base (fun _ => true) held 25 v d p) (_lt : ∀ x ∈ p, x.block < W.heap.size) :
    ∃ q : Ru, IsRu W v q := by
  obtain ⟨cs, rfl, _⟩ := okWide_struct Try.underlying25 hv
  obtain ⟨fuel, hf⟩ := h
  obtain ⟨y0, y1, y2, n, _, hl, h0, h1, h2⟩ := trod_3 Try.underlying25 hf
  rw [cells_LR] at hl
  have e1 : (Try.prog.cellsOf 22) = 1 := by kernel_rfl
  have e2 : (Try.prog.cellsOf 23) = 1 := by kernel_rfl
  generalize hcc : (Value.agg cs).cells.toList = cc at hl h0 h1 h2
  match cc, hl with
  | [c0, c1, c2], _ =>
    simp only [cells_int, e1, e2, List.drop_zero, List.drop_succ_cons, List.take_succ_cons, List.take_zero] at h0 h1 h2
    obtain ⟨k, q0⟩ := int_fz Try.underlying3 h0
    obtain ⟨l1, m1, q1⟩ := trod_ints h1
    obtain ⟨l2, m2, q2⟩ := trod_Ats h2
    refine ⟨⟨k, l1, l2⟩, ⟨m1, m2⟩, agg_fz ?_⟩
    have hcs : cs.toList = [c0, c1, c2] := hcc
    rw [hcs]
    exact q0.append (q1.append q2)
end
end Go.Proofs.Ytenbhgkfbjfocaa
