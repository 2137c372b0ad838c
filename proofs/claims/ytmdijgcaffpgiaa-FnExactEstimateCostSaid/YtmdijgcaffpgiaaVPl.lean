/-
  Plans as plain data, and those that come in. No condition.
-/
import Derived.Test.YtmdijgcaffpgiaaVGateE
set_option maxHeartbeats 4000000
set_option maxRecDepth 100000
namespace Go.Proofs.Ytmdijgcaffpgiaa
open Go.ChangeShapes Go.WideShapes Go.ChangeAt Go.RowKit Go.Joins Go.Deep

/-- A plan. -/
inductive Pl where
  | mk (k t : Int) (es : List E) (cs : List Int) (ks : List Pl)
namespace Pl
def k : Pl → Int
  | mk k _ _ _ _ => k
def t : Pl → Int
  | mk _ t _ _ _ => t
def es : Pl → List E
  | mk _ _ es _ _ => es
def cs : Pl → List Int
  | mk _ _ _ cs _ => cs
def ks : Pl → List Pl
  | mk _ _ _ _ ks => ks
end Pl
mutual
def pD : Pl → D
  | .mk k t es cs ks => .agg [I k, I t, .sl 5 (es.map eD), intsD cs, .sl 5 (pDL ks)]
def pDL : List Pl → List D
  | [] => []
  | p :: l => pD p :: pDL l
end
theorem pDL_map : ∀ l : List Pl, pDL l = l.map pD
  | [] => by rw [pDL]; rfl
  | p :: l => by rw [pDL, pDL_map l]; rfl
theorem pD_eq (p : Pl) : pD p = .agg [I p.k, I p.t, .sl 5 (p.es.map eD), intsD p.cs, .sl 5 (p.ks.map pD)] := by
  cases p with
  | mk k t es cs ks => rw [pD, pDL_map]; rfl
theorem plans_pur : ∀ l : List Pl, D.purL (l.map pD) = true
  | [] => rfl
  | p :: l => by rw [List.map_cons, D.purL, plans_pur l, pD_eq]; rfl
theorem plans_ren (L : List Nat) (l : List Pl) : D.renL L (l.map pD) = l.map pD := ren_pure.renL_pure L _ (plans_pur l)
theorem Pl.k_mk (k t : Int) (es : List E) (cs : List Int) (ks : List Pl) : (Pl.mk k t es cs ks).k = k := rfl
theorem Pl.t_mk (k t : Int) (es : List E) (cs : List Int) (ks : List Pl) : (Pl.mk k t es cs ks).t = t := rfl
theorem Pl.es_mk (k t : Int) (es : List E) (cs : List Int) (ks : List Pl) : (Pl.mk k t es cs ks).es = es := rfl
theorem Pl.cs_mk (k t : Int) (es : List E) (cs : List Int) (ks : List Pl) : (Pl.mk k t es cs ks).cs = cs := rfl
theorem Pl.ks_mk (k t : Int) (es : List E) (cs : List Int) (ks : List Pl) : (Pl.mk k t es cs ks).ks = ks := rfl
attribute [go_sem] pD_eq plans_pur plans_ren Pl.k_mk Pl.t_mk Pl.es_mk Pl.cs_mk Pl.ks_mk
mutual
theorem Pl.indA {P : Pl → Prop} (h : ∀ p, (∀ x, x ∈ p.ks → P x) → P p) : ∀ p, P p
  | .mk k t es cs ks => h (.mk k t es cs ks) (Pl.indL h ks)
theorem Pl.indL {P : Pl → Prop} (h : ∀ p, (∀ x, x ∈ p.ks → P x) → P p) : ∀ l : List Pl, ∀ x, x ∈ l → P x
  | [] => fun _ hx => by cases hx
  | p :: l => fun x hx => (List.mem_cons.1 hx).elim (fun he => he.symm ▸ Pl.indA h p) (Pl.indL h l x)
end
/-- All lists in a plan are such as there may be. -/
inductive MostP : Pl → Prop
  | mk {k t : Int} {es : List E} {cs : List Int} {ks : List Pl} (h1 : es.length ≤ big) (h2 : ∀ x, x ∈ es → Most x) (h3 : cs.length ≤ big) (h4 : ks.length ≤ big) (h5 : ∀ x, x ∈ ks → MostP x) : MostP (.mk k t es cs ks)
theorem MostP.lens {p : Pl} (h : MostP p) : p.es.length ≤ big ∧ p.cs.length ≤ big ∧ p.ks.length ≤ big := by cases h with | mk h1 _ h3 h4 _ => exact ⟨h1, h3, h4⟩
theorem MostP.expr {p : Pl} {x : E} (h : MostP p) (hx : x ∈ p.es) : Most x := by cases h with | mk _ h2 _ _ _ => exact h2 x hx
theorem MostP.kid {p x : Pl} (h : MostP p) (hx : x ∈ p.ks) : MostP x := by cases h with | mk _ _ _ _ h5 => exact h5 x hx
mutual
/-- How many elements a plan's lists have. -/
def psz : Pl → Nat
  | .mk _ _ es cs ks => eszL es + cs.length + pszL ks
def pszL : List Pl → Nat
  | [] => 0
  | p :: l => 1 + psz p + pszL l
end
theorem psz_eq (p : Pl) : psz p = eszL p.es + p.cs.length + pszL p.ks := by cases p; rfl
theorem pszL_append : ∀ (l m : List Pl), pszL (l ++ m) = pszL l + pszL m
  | [], m => by rw [List.nil_append, pszL, Nat.zero_add]
  | e :: l, m => by rw [List.cons_append, pszL, pszL, pszL_append l m]; omega
theorem pszL_next {ps : List Pl} {i : Nat} {x : Pl} (h : ps[i]? = some x) : pszL (ps.take (i + 1)) = pszL (ps.take i) + (1 + psz x) := by
  rw [take_next h, pszL_append, pszL, pszL]
  omega
theorem pszL_len : ∀ l : List Pl, l.length ≤ pszL l
  | [] => Nat.le_refl _
  | e :: l => by
    have := pszL_len l
    rw [pszL, List.length_cons]
    omega
theorem pszL_rest (ps : List Pl) (i : Nat) : pszL (ps.take i) + (ps.length - i) ≤ pszL ps := by
  have h1 := pszL_append (ps.take i) (ps.drop i)
  rw [List.take_append_drop] at h1
  have h2 := pszL_len (ps.drop i)
  rw [List.length_drop] at h2
  omega
theorem pszL_low (ps : List Pl) (i : Nat) (hi : i ≤ ps.length) : i ≤ pszL (ps.take i) := by
  have h := pszL_len (ps.take i)
  rw [List.length_take] at h
  omega
theorem pszL_mem {p : Pl} {l : List Pl} (h : p ∈ l) : psz p + 1 ≤ pszL l := by
  induction l with
  | nil => cases h
  | cons x l ih =>
    rw [pszL]
    rcases List.mem_cons.1 h with rfl | h
    · omega
    · have := ih h; omega

theorem cells_LP : Try.prog.cellsOf 26 = 5 := by kernel_rfl
section
variable {H : Type} {enc : TypeId × Value → H} {W : World} {base b0 : Nat} {held : Bool} {r : Reach} {v : Value} {d : DataW H} {p : List MemPlace}
theorem trod_5 {P : Program} {spare : Nat → Bool} {t : TypeId} {f0 f1 f2 f3 f4 : Field} {fuel : Nat} {cs : List Value} {x : DataW H × List MemPlace} (ht : P.underlying t = some (.struct #[f0, f1, f2, f3, f4])) (h : DataW.trod enc P W base spare held fuel t cs = some x) :
    ∃ y0 y1 y2 y3 y4 n, fuel = n + 1 ∧ cs.length = P.cellsOf t ∧ DataW.trod enc P W base spare held n f0.type ((cs.drop f0.offset).take (P.cellsOf f0.type)) = some y0 ∧
      DataW.trod enc P W base spare held n f1.type ((cs.drop f1.offset).take (P.cellsOf f1.type)) = some y1 ∧ DataW.trod enc P W base spare held n f2.type ((cs.drop f2.offset).take (P.cellsOf f2.type)) = some y2 ∧
      DataW.trod enc P W base spare held n f3.type ((cs.drop f3.offset).take (P.cellsOf f3.type)) = some y3 ∧ DataW.trod enc P W base spare held n f4.type ((cs.drop f4.offset).take (P.cellsOf f4.type)) = some y4 := by
  obtain ⟨xs, n, hn, _, hl, hlen, hf⟩ := DataW.trod_struct ht h
  have hs : xs.length = 5 := by simpa using hlen
  match xs, hs with
  | [y0, y1, y2, y3, y4], _ => exact ⟨y0, y1, y2, y3, y4, n, hn, hl, by simpa using hf 0 f0 rfl, by simpa using hf 1 f1 rfl, by simpa using hf 2 f2 rfl, by simpa using hf 3 f3 rfl, by simpa using hf 4 f4 rfl⟩
set_option maxRecDepth 100000 in
theorem trod_Pl : ∀ (fuel : Nat) (cs : List Value) (x : DataW H × List MemPlace), DataW.trod enc Try.prog W base (fun _ => true) held fuel 26 cs = some x →
    ∃ p : Pl, CellsOK W (allOf W) noNames (pD p).cells cs ∧ MostP p := by
  intro fuel
  induction fuel using Nat.strongRecOn with
  | ind fuel IH =>
    intro cs x h
    obtain ⟨y0, y1, y2, y3, y4, n, rfl, hl, h0, h1, h2, h3, h4⟩ := trod_5 Try.underlying26 h
    rw [cells_LP] at hl
    match cs, hl with
    | [c0, c1, c2, c3, c4], _ =>
      have e1 : (Try.prog.cellsOf 22) = 1 := by kernel_rfl
      have e2 : (Try.prog.cellsOf 23) = 1 := by kernel_rfl
      have e3 : (Try.prog.cellsOf 24) = 1 := by kernel_rfl
      simp only [cells_int, e1, e2, e3, List.drop_zero, List.drop_succ_cons, List.take_succ_cons, List.take_zero] at h0 h1 h2 h3 h4
      obtain ⟨k, q0⟩ := int_fz Try.underlying3 h0
      obtain ⟨t, q1⟩ := int_fz Try.underlying3 h1
      obtain ⟨es, he, hel, q2⟩ := slice_fz Try.underlying22 cells_LE (by decide) eD Most h2 (fun n' hn' cs' x' h' => by
        obtain ⟨e, ho, hm⟩ := trod_Ex n' cs' x' h'
        exact ⟨e, by rw [eD_eq]; rfl, ho, hm⟩)
      obtain ⟨l, hll, q3⟩ := trod_ints h3
      obtain ⟨ks, hk, hkl, q4⟩ := slice_fz Try.underlying24 cells_LP (by decide) pD MostP h4 (fun n' hn' cs' x' h' => by
        obtain ⟨e, ho, hm⟩ := IH n' (by omega) cs' x' h'
        exact ⟨e, by rw [pD_eq]; rfl, ho, hm⟩)
      exact ⟨.mk k t es l ks, by rw [pD_eq]; exact q0.append (q1.append (q2.append (q3.append q4))), .mk hel he hll hkl hk⟩
/-- A plan that came in. -/
def IsP (w : World) (v : Value) (p : Pl) : Prop := MostP p ∧ Fz w (allOf w) noNames (pD p) v
set_option maxRecDepth 100000 in
theorem open_pP (hv : Value.okWide Try.prog W r b0 26 v) (h : DataW.Trod enc Try.prog W base (fun _ => true) held 26 v d p) (_lt : ∀ x ∈ p, x.block < W.heap.size) :
    ∃ q : Pl, IsP W v q := by
  obtain ⟨cs, rfl, _⟩ := okWide_struct Try.underlying26 hv
  obtain ⟨fuel, hf⟩ := h
  obtain ⟨q, ho, hm⟩ := trod_Pl fuel _ _ hf
  refine ⟨q, hm, ?_⟩
  rw [pD_eq] at ho ⊢
  exact agg_fz ho
end
end Go.Proofs.Ytmdijgcaffpgiaa
