/-
  What is valid, what it is worth: values, rows, expressions. Plain definitions.
-/
import Derived.Test.YtedmegmhjmabcaaVLib
namespace Go.Proofs.Ytedmegmhjmabcaa
open Go.RowKit

noncomputable instance V.okDec (v : V) : Decidable v.ok := Classical.propDecidable _
theorem sub_t {p : Prop} [Decidable p] (h : p) : Sub (Bo true) (Bo (decide p)) := Sub.of_eq (by rw [decide_eq_true h])
theorem sub_f {p : Prop} [Decidable p] (h : ¬ p) : Sub (Bo false) (Bo (decide p)) := Sub.of_eq (by rw [decide_eq_false h])
theorem sub_iff {p : Prop} [Decidable p] {b : Bool} (h : b = true ↔ p) : Sub (Bo b) (Bo (decide p)) := by
  by_cases hp : p
  · rw [h.2 hp]; exact sub_t hp
  · cases b with
    | true => exact absurd (h.1 rfl) hp
    | false => exact sub_f hp
theorem at_or_end {α : Type} {vs : List α} {i : Nat} (h : i ≤ vs.length) : (∃ v, vs[i]? = some v ∧ i < vs.length) ∨ i = vs.length := by
  by_cases hi : i < vs.length
  · exact .inl ⟨vs[i], List.getElem?_eq_getElem hi, hi⟩
  · exact .inr (by omega)
/-- What holds of those before i and of the i-th holds of those before i + 1. -/
theorem upto_next {α : Type} {p : α → Prop} {vs : List α} {i : Nat} {v : α} (hv : vs[i]? = some v) (h : ∀ (j : Nat) (u : α), j < i → vs[j]? = some u → p u) (hp : p v) : ∀ (j : Nat) (u : α), j < i + 1 → vs[j]? = some u → p u := by
  intro j u hj hu
  by_cases e : j = i
  · subst e
    rw [hv] at hu
    obtain rfl : v = u := by simpa using hu
    exact hp
  · exact h j u (by omega) hu
theorem upto_all {α : Type} {p : α → Prop} {vs : List α} (h : ∀ (j : Nat) (u : α), j < vs.length → vs[j]? = some u → p u) : ∀ u, u ∈ vs → p u := by
  intro u hu
  obtain ⟨j, hj⟩ := List.mem_iff_getElem?.1 hu
  exact h j u (List.getElem?_eq_some_iff.1 hj).1 hj
theorem V.ok_iff (v : V) : v.ok ↔ -9999 ≤ v.n ∧ v.n ≤ 9999 ∧ (v.b = true → v.n = 0) := ⟨fun h => ⟨h.lo, h.hi, h.nul⟩, fun h => ⟨h.1, h.2.1, h.2.2⟩⟩
def rowOk (vs : List V) : Prop := (1 ≤ vs.length ∧ vs.length ≤ 6) ∧ ∀ v, v ∈ vs → v.ok
noncomputable instance rowOkDec (vs : List V) : Decidable (rowOk vs) := Classical.propDecidable _

/-- How many kids a kind has. -/
def kidsN (k : Int) : Int := if k = 1 ∨ k = 2 then 0 else if k = 10 ∨ k = 11 then 1 else if 3 ≤ k ∧ k ≤ 9 then 2 else -1
/-- What a node itself bears. -/
def leafOk (k c : Int) (v : V) (w : Int) : Prop := if k = 1 then 0 ≤ c ∧ c ≤ w - 1 ∧ v.b = false ∧ v.n = 0 else if k = 2 then c = 0 ∧ v.ok else c = 0 ∧ v.b = false ∧ v.n = 0
theorem kidsN_le (k : Int) : kidsN k ≤ 2 := by
  unfold kidsN
  split
  · decide
  · split
    · decide
    · split <;> decide
theorem kidsN_leaf {k : Int} (h : k = 1 ∨ k = 2) : kidsN k = 0 := if_pos h
theorem leaf1 {k c w : Int} {v : V} (hk : k = 1) (hc : 0 ≤ c ∧ c ≤ w - 1) : (v.b == false && v.n == 0) = true ↔ leafOk k c v w := by
  unfold leafOk
  rw [if_pos hk, Bool.and_eq_true, beq_iff_eq, beq_iff_eq]
  exact ⟨fun h => ⟨hc.1, hc.2, h.1, h.2⟩, fun h => ⟨h.2.2.1, h.2.2.2⟩⟩
theorem leaf1f {k c w : Int} {v : V} (hk : k = 1) (hc : ¬ (0 ≤ c ∧ c ≤ w - 1)) : ¬ leafOk k c v w := by
  unfold leafOk
  rw [if_pos hk]
  exact fun h => hc ⟨h.1, h.2.1⟩
theorem leaf2 {k c w : Int} {v : V} (hk : k = 2) (hc : c = 0) : v.ok ↔ leafOk k c v w := by
  unfold leafOk
  rw [if_neg (by omega), if_pos hk]
  exact ⟨fun h => ⟨hc, h⟩, fun h => h.2⟩
theorem leaf2f {k c w : Int} {v : V} (h1 : ¬ k = 1) (hc : ¬ c = 0) : ¬ leafOk k c v w := by
  unfold leafOk
  rw [if_neg h1]
  split
  · exact fun h => hc h.1
  · exact fun h => hc h.1
theorem leaf3 {k c w : Int} {v : V} (h1 : ¬ k = 1) (h2 : ¬ k = 2) (hc : c = 0) : (v.b == false && v.n == 0) = true ↔ leafOk k c v w := by
  unfold leafOk
  rw [if_neg h1, if_neg h2, Bool.and_eq_true, beq_iff_eq, beq_iff_eq]
  exact ⟨fun h => ⟨hc, h.1, h.2⟩, fun h => ⟨h.2.1, h.2.2⟩⟩
mutual
def eOk : E → Int → Nat → Prop
  | .mk k c v ks, w, d => (ks.length : Int) = kidsN k ∧ (0 < ks.length → d ≠ 0) ∧ eOkL ks w (d - 1) ∧ leafOk k c v w
def eOkL : List E → Int → Nat → Prop
  | [], _, _ => True
  | e :: l, w, d => eOk e w d ∧ eOkL l w d
end
theorem eOkL_iff : ∀ {l : List E} {w : Int} {d : Nat}, eOkL l w d ↔ ∀ e, e ∈ l → eOk e w d
  | [], w, d => by rw [eOkL]; exact ⟨(fun _ e h => by cases h), fun _ => trivial⟩
  | e :: l, w, d => by
    rw [eOkL, eOkL_iff (l := l)]
    exact ⟨(fun h x hx => by
      rcases List.mem_cons.1 hx with rfl | hx
      · exact h.1
      · exact h.2 x hx), fun h => ⟨h e (List.mem_cons_self ..), fun x hx => h x (List.mem_cons_of_mem _ hx)⟩⟩
theorem eOk_iff (e : E) (w : Int) (d : Nat) : eOk e w d ↔ (e.ks.length : Int) = kidsN e.k ∧ (0 < e.ks.length → d ≠ 0) ∧ (∀ x, x ∈ e.ks → eOk x w (d - 1)) ∧ leafOk e.k e.c e.v w := by
  cases e with
  | mk k c v ks => rw [eOk, eOkL_iff]; rfl
noncomputable instance eOkDec (e : E) (w : Int) (d : Nat) : Decidable (eOk e w d) := Classical.propDecidable _
mutual
theorem E.ind {p : E → Prop} (h : ∀ e : E, (∀ x, x ∈ e.ks → p x) → p e) : ∀ e : E, p e
  | .mk k c v ks => h (.mk k c v ks) (E.indL h ks)
theorem E.indL {p : E → Prop} (h : ∀ e : E, (∀ x, x ∈ e.ks → p x) → p e) : ∀ l : List E, ∀ x, x ∈ l → p x
  | [] => fun _ hx => by cases hx
  | e :: l => fun x hx => (List.mem_cons.1 hx).elim (fun he => he.symm ▸ E.ind h e) (E.indL h l x)
end

/-- A number as a value, or null. -/
def num (n : Int) : V := if -9999 ≤ n ∧ n ≤ 9999 then ⟨false, n⟩ else ⟨true, 0⟩
/-- Truths: 0, 1, and 2 for unknown. -/
def tr (v : V) : Int := if v.b = true then 2 else if v.n = 0 then 0 else 1
def ofTr (n : Int) : V := if n = 2 then ⟨true, 0⟩ else ⟨false, n⟩
def andTr (a b : Int) : Int := if a = 0 ∨ b = 0 then 0 else if a = 1 ∧ b = 1 then 1 else 2
def notTr (a : Int) : Int := if a = 2 then 2 else 1 - a
def b2i (b : Bool) : Int := if b then 1 else 0
def comb (k : Int) (a b : V) : V :=
  if k = 8 then ofTr (andTr (tr a) (tr b)) else if k = 9 then ofTr (notTr (andTr (notTr (tr a)) (notTr (tr b)))) else
  if a.b = true ∨ b.b = true then ⟨true, 0⟩ else
  if k = 3 then num (a.n + b.n) else if k = 4 then num (a.n - b.n) else if k = 5 then num (a.n * b.n) else
  if k = 6 then ⟨false, b2i (a.n == b.n)⟩ else ⟨false, b2i (decide (a.n < b.n))⟩
theorem tr_range (v : V) : 0 ≤ tr v ∧ tr v ≤ 2 := by
  unfold tr
  split
  · decide
  · split <;> decide
theorem notTr_range {a : Int} (h : 0 ≤ a ∧ a ≤ 2) : 0 ≤ notTr a ∧ notTr a ≤ 2 := by unfold notTr; split <;> omega
theorem andTr_range (a b : Int) : 0 ≤ andTr a b ∧ andTr a b ≤ 2 := by
  unfold andTr
  split
  · decide
  · split <;> decide
theorem comb8 {k : Int} {a b : V} (h : k = 8) : comb k a b = ofTr (andTr (tr a) (tr b)) := if_pos h
theorem comb9 {k : Int} {a b : V} (h : k = 9) : comb k a b = ofTr (notTr (andTr (notTr (tr a)) (notTr (tr b)))) := by unfold comb; rw [if_neg (by omega), if_pos h]
theorem combN {k : Int} {a b : V} (h8 : ¬ k = 8) (h9 : ¬ k = 9) (h : a.b = true ∨ b.b = true) : comb k a b = ⟨true, 0⟩ := by unfold comb; rw [if_neg h8, if_neg h9, if_pos h]
theorem combX {k : Int} {a b : V} (h8 : ¬ k = 8) (h9 : ¬ k = 9) (ha : a.b = false) (hb : b.b = false) : comb k a b = if k = 3 then num (a.n + b.n) else if k = 4 then num (a.n - b.n) else if k = 5 then num (a.n * b.n) else
  if k = 6 then ⟨false, b2i (a.n == b.n)⟩ else ⟨false, b2i (decide (a.n < b.n))⟩ := by unfold comb; rw [if_neg h8, if_neg h9, if_neg (by rw [ha, hb]; simp)]
theorem num_ok (n : Int) : (num n).ok := by
  unfold num
  split
  · rename_i h; exact ⟨h.1, h.2, fun e => by cases e⟩
  · exact ⟨by decide, by decide, fun _ => rfl⟩
theorem ofTr_ok {n : Int} (h : 0 ≤ n ∧ n ≤ 2) : (ofTr n).ok := by
  unfold ofTr
  split
  · exact ⟨by decide, by decide, fun _ => rfl⟩
  · exact ⟨by show -9999 ≤ n; omega, by show n ≤ 9999; omega, fun e => by cases e⟩
theorem b2i_ok (b : Bool) : V.ok ⟨false, b2i b⟩ := by cases b <;> exact ⟨by decide, by decide, fun e => by cases e⟩
theorem comb_ok (k : Int) (a b : V) : (comb k a b).ok := by
  unfold comb
  split
  · exact ofTr_ok (andTr_range _ _)
  split
  · exact ofTr_ok (notTr_range (andTr_range _ _))
  split
  · exact ⟨by decide, by decide, fun _ => rfl⟩
  split
  · exact num_ok _
  split
  · exact num_ok _
  split
  · exact num_ok _
  split
  · exact b2i_ok _
  · exact b2i_ok _
/-- The value of an expression. -/
def V.zero : V := ⟨false, 0⟩
mutual
def ev : E → List V → V
  | .mk k c v ks, row => if k = 1 then row.getD c.toNat V.zero else if k = 2 then v else
    match evL ks row with
    | [] => V.zero
    | a :: l => if k = 10 then ofTr (notTr (tr a)) else if k = 11 then ⟨false, b2i a.b⟩ else comb k a (l.headD V.zero)
def evL : List E → List V → List V
  | [], _ => []
  | e :: l, row => ev e row :: evL l row
end
theorem evL_map : ∀ (l : List E) (row : List V), evL l row = l.map (fun e => ev e row)
  | [], _ => by rw [evL]; rfl
  | e :: l, row => by rw [evL, evL_map l]; rfl
theorem ev_col {e : E} {row : List V} {v : V} (h : e.k = 1) (hv : row[e.c.toNat]? = some v) : ev e row = v := by
  cases e with
  | mk k c u ks =>
    have h : k = 1 := h
    rw [ev, if_pos h, List.getD_eq_getElem?_getD, show row[c.toNat]? = some v from hv]
    rfl
theorem ev_const {e : E} {row : List V} (h : e.k = 2) : ev e row = e.v := by
  cases e with
  | mk k c u ks =>
    have h : k = 2 := h
    rw [ev, if_neg (by omega), if_pos h]
    rfl
theorem ev_not {e a : E} {row : List V} (h : e.k = 10) (hk : e.ks = [a]) : ev e row = ofTr (notTr (tr (ev a row))) := by
  cases e with
  | mk k c u ks =>
    have h : k = 10 := h
    have hk : ks = [a] := hk
    subst hk
    rw [ev, if_neg (by omega), if_neg (by omega), evL_map]
    exact if_pos h
theorem ev_null {e a : E} {row : List V} (h : e.k = 11) (hk : e.ks = [a]) : ev e row = ⟨false, b2i (ev a row).b⟩ := by
  cases e with
  | mk k c u ks =>
    have hk' : k = 11 := h
    have hk : ks = [a] := hk
    subst hk
    rw [ev, if_neg (by omega), if_neg (by omega), evL_map]
    show (if k = 10 then _ else if k = 11 then _ else _) = _
    rw [if_neg (by omega), if_pos hk']
theorem ev_two {e a b : E} {row : List V} (h1 : ¬ e.k = 1) (h2 : ¬ e.k = 2) (h10 : ¬ e.k = 10) (h11 : ¬ e.k = 11) (hk : e.ks = [a, b]) : ev e row = comb e.k (ev a row) (ev b row) := by
  cases e with
  | mk k c u ks =>
    have hk : ks = [a, b] := hk
    subst hk
    have h1 : ¬ k = 1 := h1
    have h2 : ¬ k = 2 := h2
    have h10 : ¬ k = 10 := h10
    have h11 : ¬ k = 11 := h11
    rw [ev, if_neg h1, if_neg h2, evL_map]
    show (if k = 10 then _ else if k = 11 then _ else _) = _
    rw [if_neg h10, if_neg h11]
    rfl
/-- The kids of a valid expression. -/
theorem eOk_kids {e : E} {w : Int} {d : Nat} (h : eOk e w d) : ((e.k = 1 ∨ e.k = 2) ∧ e.ks = []) ∨ ((e.k = 10 ∨ e.k = 11) ∧ ∃ a, e.ks = [a] ∧ eOk a w (d - 1)) ∨ ((3 ≤ e.k ∧ e.k ≤ 9) ∧ ∃ a b, e.ks = [a, b] ∧ eOk a w (d - 1) ∧ eOk b w (d - 1)) := by
  rw [eOk_iff] at h
  obtain ⟨hn, _, hk, _⟩ := h
  unfold kidsN at hn
  split at hn
  · rename_i h1
    exact .inl ⟨h1, List.length_eq_zero_iff.1 (by omega)⟩
  · split at hn
    · rename_i h1
      obtain ⟨a, ha⟩ := List.length_eq_one_iff.1 (show e.ks.length = 1 by omega)
      exact .inr (.inl ⟨h1, a, ha, hk a (by rw [ha]; exact List.mem_cons_self ..)⟩)
    · split at hn
      · rename_i h1
        obtain ⟨a, b, ha⟩ : ∃ a b, e.ks = [a, b] := by
          match hks : e.ks, (show e.ks.length = 2 by omega) with
          | [a, b], _ => exact ⟨a, b, rfl⟩
        exact .inr (.inr ⟨h1, a, b, ha, hk a (by rw [ha]; exact List.mem_cons_self ..), hk b (by rw [ha]; exact List.mem_cons_of_mem _ (List.mem_cons_self ..))⟩)
      · omega
theorem ev_ok {row : List V} (hr : ∀ v, v ∈ row → v.ok) : ∀ (e : E) (d : Nat), eOk e row.length d → (ev e row).ok := by
  refine E.ind (fun e ih d h => ?_)
  have hl := ((eOk_iff e _ d).1 h).2.2.2
  rcases eOk_kids h with ⟨h1, _⟩ | ⟨h1, a, ha, hao⟩ | ⟨h1, a, b, hab, _, _⟩
  · unfold leafOk at hl
    rcases h1 with h1 | h1
    · rw [if_pos h1] at hl
      have hv := List.getElem?_eq_getElem (show e.c.toNat < row.length by omega)
      rw [ev_col h1 hv]
      exact hr _ (List.getElem_mem _)
    · rw [if_neg (by omega), if_pos h1] at hl
      rw [ev_const h1]
      exact hl.2
  · rcases h1 with h1 | h1
    · rw [ev_not h1 ha]
      exact ofTr_ok (notTr_range (tr_range _))
    · rw [ev_null h1 ha]
      exact b2i_ok _
  · rw [ev_two (by omega) (by omega) (by omega) (by omega) hab]
    exact comb_ok _ _ _
/-- What both packages answer. -/
noncomputable def evalD (e : E) (row : List V) : D := if rowOk row ∧ eOk e row.length 8 then .tup [vD (ev e row), Bo true] else .tup [vD ⟨false, 0⟩, Bo false]
theorem Sub.sl {s : Nat} {es fs : List D} (hl : es.length = fs.length) (hc : ∀ e, e ∈ fs → e.cells.length = s) (h : SubL (D.flat es) (D.flat fs)) : Sub (.sl s es) (.sl s fs) := fun w F m x hx => by
  obtain ⟨h1, h2⟩ := h.spec
  cases hx with
  | sl0 _ _ a cap =>
    obtain rfl : fs = [] := List.length_eq_zero_iff.1 (by rw [← hl]; rfl)
    exact .sl0 m s a cap
  | sl _ _ _ b off cap u hs hle hlen hu hr =>
    have := Fz.sl (w := w) (F := F) m s fs b off cap u hs (by omega) hc (fun k hk => hu k (by rw [hl]; exact hk)) (fun k d hd => by
      obtain ⟨d', hd', hsub⟩ := h2 k d hd
      exact hsub _ _ _ _ (hr k d' hd'))
    rw [← hl] at this
    exact this
theorem SubL.append : ∀ {a b c d : List D}, SubL a b → SubL c d → SubL (a ++ c) (b ++ d)
  | [], [], _, _, _, h => h
  | [], _ :: _, _, _, h, _ => h.elim
  | _ :: _, [], _, _, h, _ => h.elim
  | _ :: _, _ :: _, _, _, h, h1 => ⟨h.1, SubL.append h.2 h1⟩
theorem SubL.flat_map {α : Type} (f g : α → D) : ∀ (l : List α), (∀ a, a ∈ l → SubL (f a).cells (g a).cells) → SubL (D.flat (l.map f)) (D.flat (l.map g))
  | [], _ => trivial
  | a :: l, h => SubL.append (h a (List.mem_cons_self ..)) (SubL.flat_map f g l (fun x hx => h x (List.mem_cons_of_mem _ hx)))
theorem Sub.slmap {α : Type} {s : Nat} (f g : α → D) (l : List α) (hg : ∀ a, a ∈ l → (g a).cells.length = s) (h : ∀ a, a ∈ l → SubL (f a).cells (g a).cells) : Sub (.sl s (l.map f)) (.sl s (l.map g)) :=
  Sub.sl (by rw [List.length_map, List.length_map]) (fun e he => by obtain ⟨a, ha, rfl⟩ := List.mem_map.1 he; exact hg a ha) (SubL.flat_map f g l h)
/-- An expression whose kids, where there are none, are a nil slice. -/
def eN (e : E) : D := .agg [I e.k, I e.c, Bo e.v.b, I e.v.n, if e.ks = [] then .nul else .sl 5 (e.ks.map eD)]
theorem eN_sub (e : E) : Sub (eN e) (eD e) := by
  rw [eD_eq]
  unfold eN
  split
  · rename_i h
    rw [h]
    exact Sub.agg ⟨Sub.refl _, Sub.refl _, Sub.refl _, Sub.refl _, Sub.nul 5, trivial⟩
  · exact Sub.refl _
theorem eN_cells (e : E) : SubL (eN e).cells (eD e).cells := by
  rw [eD_eq]
  unfold eN
  refine ⟨Sub.refl _, Sub.refl _, Sub.refl _, Sub.refl _, ?_, trivial⟩
  split
  · rename_i h
    rw [h]
    exact Sub.nul 5
  · exact Sub.refl _
theorem eD_cells (e : E) : (eD e).cells.length = 5 := by rw [eD_eq]; rfl
theorem eN_list (l : List E) : Sub (.sl 5 (l.map eN)) (.sl 5 (l.map eD)) := Sub.slmap eN eD l (fun e _ => eD_cells e) (fun e _ => eN_cells e)
end Go.Proofs.Ytedmegmhjmabcaa
