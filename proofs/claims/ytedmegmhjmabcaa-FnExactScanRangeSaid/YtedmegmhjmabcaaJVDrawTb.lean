/-
  How often rows occur in sorted lists. Plain lemmas.
-/
import Derived.Test.YtedmegmhjmabcaaJVSzE
import Derived.Test.YtedmegmhjmabcaaVSort
import Derived.Test.YtedmegmhjmabcaaVLays
import Derived.Test.YtedmegmhjmabcaaVRen
import Derived.Test.YtedmegmhjmabcaaVRegL
import Derived.Test.YtedmegmhjmabcaaJVEqT
import Derived.Test.YtedmegmhjmabcaaVEsz
import Derived.Test.YtedmegmhjmabcaaDca
import Derived.Test.YtedmegmhjmabcaaDcc
import Derived.Test.YtedmegmhjmabcaaJVSrtT
import Derived.Test.YtedmegmhjmabcaaVBox
set_option linter.unusedVariables false
namespace Go.Proofs.Ytedmegmhjmabcaa
open Go.RowKit

theorem cntE_perm {row : List V} {l m : List (List V)} (h : l.Perm m) : cntE row l = cntE row m := by
  unfold cntE
  exact (h.filter _).length_eq
theorem cntE_pos {row : List V} {l : List (List V)} : 0 < cntE row l ↔ row ∈ l := by
  unfold cntE
  rw [List.length_pos_iff_exists_mem]
  constructor
  · rintro ⟨a, ha⟩
    have h := List.mem_filter.1 ha
    have e : a = row := cmpR_eq (by simpa using h.2)
    exact e ▸ h.1
  · intro h
    exact ⟨row, List.mem_filter.2 ⟨h, by simpa using cmpR_self row⟩⟩
theorem cntE_same (row : List V) (l : List (List V)) : cntE row (row :: l) = cntE row l + 1 := by
  unfold cntE
  rw [List.filter_cons, if_pos (by simpa using cmpR_self row), List.length_cons]
theorem cntE_ne {row x : List V} (h : x ≠ row) (l : List (List V)) : cntE row (x :: l) = cntE row l := by
  unfold cntE
  rw [List.filter_cons, if_neg (fun e => h (cmpR_eq (by simpa using e)))]
theorem cntE_two' (row x : List V) (l m : List (List V)) (h : cntE row (x :: l) = cntE row (x :: m)) : cntE row l = cntE row m := by
  by_cases e : x = row
  · subst e
    rw [cntE_same, cntE_same] at h
    omega
  · rwa [cntE_ne e, cntE_ne e] at h
theorem perm_of_cnt : ∀ {l m : List (List V)}, (∀ r, cntE r l = cntE r m) → l.Perm m
  | [], m, h => by
    cases m with
    | nil => exact List.Perm.refl _
    | cons x m =>
      have := h x
      rw [cntE_same] at this
      have h0 : cntE x [] = 0 := rfl
      omega
  | x :: l, m, h => by
    have hx : x ∈ m := by
      rw [← cntE_pos, ← h x, cntE_same]
      omega
    obtain ⟨s, t, rfl⟩ := List.append_of_mem hx
    have hp : (s ++ x :: t).Perm (x :: (s ++ t)) := List.perm_middle
    refine List.Perm.trans (List.Perm.cons x (perm_of_cnt fun r => ?_)) hp.symm
    have := h r
    rw [cntE_perm hp] at this
    exact cntE_two' r x l (s ++ t) this
/-- Sorted lists with the same counts are equal. -/
theorem asc_unique {w : Nat} {l m : List (List V)} (hm : RsW w m) (al : Asc l) (am : Asc m) (h : ∀ r, cntE r l = cntE r m) : l = m := by
  rw [srt_unique hm (perm_of_cnt h) al, srt_of_asc hm am]
theorem asc_sub {l m : List (List V)} (h : l.Sublist m) (am : Asc m) : Asc l := am.sublist h
theorem rsw_sub {w : Nat} {l m : List (List V)} (h : l.Sublist m) (hm : RsW w m) : RsW w l := fun r hr => hm r (h.subset hr)
theorem rsw_app {w : Nat} {l m : List (List V)} (hl : RsW w l) (hm : RsW w m) : RsW w (l ++ m) := fun r hr => by
  rcases List.mem_append.1 hr with h | h
  · exact hl r h
  · exact hm r h
theorem cntE_srt (row : List V) (l : List (List V)) : cntE row (srt l) = cntE row l := cntE_perm (srt_perm l)
theorem nil_of_cnt {l : List (List V)} (h : ∀ r, cntE r l = 0) : l = [] := by
  cases l with
  | nil => rfl
  | cons x l =>
    have := h x
    rw [cntE_same] at this
    omega
theorem cnt_sum_len {l m : List (List V)} (h : ∀ r, cntE r l = cntE r m) : l.length = m.length := (perm_of_cnt h).length_eq
end Go.Proofs.Ytedmegmhjmabcaa
set_option maxHeartbeats 4000000
set_option maxRecDepth 100000
set_option linter.unusedVariables false
set_option linter.unusedSimpArgs false
namespace Go.Proofs.Ytedmegmhjmabcaa
open Go.RowKit

def okR (w : Nat) (r : List V) : Prop := r.length = w ∧ ∀ v, v ∈ r → v.ok
theorem ord_rows (w : Nat) : OrdOn cmpR (okR w) where
  irrefl a _ := by have := cmpR_self a; omega
  trans a b c ha hb hc h1 h2 := (cmpR_trans a b c (by have := ha.1; have := hb.1; omega) (by have := hb.1; have := hc.1; omega) ha.2 hb.2 hc.2 (by omega)).2 h2
  ntrans a b c ha hb hc h1 h2 := by
    have e1 := cmpR_anti a b (by have := ha.1; have := hb.1; omega) ha.2 hb.2
    have e2 := cmpR_anti b c (by have := hb.1; have := hc.1; omega) hb.2 hc.2
    have e3 := cmpR_anti a c (by have := ha.1; have := hc.1; omega) ha.2 hc.2
    have := (cmpR_trans c b a (by have := hc.1; have := hb.1; omega) (by have := hb.1; have := ha.1; omega) hc.2 hb.2 ha.2 (by omega)).1 (by omega)
    omega
theorem sortL_srt {w : Nat} {rs : List (List V)} (h : RsW w rs) : sortL cmpR rs = srt rs := by
  have hp := sortL_perm (ord_rows w) rs h
  refine srt_unique h hp ?_
  refine List.Pairwise.imp_of_mem ?_ (sortL_asc (ord_rows w) rs h)
  intro a b ha hb hab
  have ga := h a (hp.mem_iff.1 ha)
  have gb := h b (hp.mem_iff.1 hb)
  have := cmpR_anti a b (by omega) ga.2 gb.2
  unfold leR
  omega
theorem sortRows_ok (w : Nat) (hw : w < 1000) (rs : List (List V)) (h : RsW w rs) (hl : rs.length ≤ 100000) : Does Try.prog 128 [.row 1 (rs.map rowD)] [.own 1000000 1 rs.length, .fn 90 []] (.tup []) [.row 1 ((srt rs).map rowD)] := by
  have := sort_own rowsSort (g := 90) (by kernel_rfl) (caps := []) rfl rowD (fun _ => rfl) (fun _ => rfl) (ord_rows w) (fun a b ha hb => compareRows_impl a b (by have := ha.1; have := hb.1; omega) (by have := ha.1; omega) ha.2 hb.2) rs h (by omega)
  rw [sortL_srt h] at this
  exact this
end Go.Proofs.Ytedmegmhjmabcaa
set_option maxHeartbeats 4000000
set_option maxRecDepth 100000
set_option linter.unusedVariables false
set_option linter.unusedSimpArgs false
namespace Go.Proofs.Ytedmegmhjmabcaa
open Go.RowKit

theorem fin_RC {σ : Env} {rs : List Res} {r : D} {fm : Fm} {p k1 : Nat} {m0 : Names} (hgh : hold (σ gh) = .gho 0 [.fam (famOf fm p m0)] 0 k1) (hok : hold (resOk σ rs)) (hres : hold (resD σ rs) = r) : FinRC rs r fm p m0 k1 σ := ⟨σ, Wk.refl 0 σ, hgh, hok, hres⟩
theorem fin_RCw {σ τ : Env} {rs : List Res} {r : D} {fm : Fm} {p k1 : Nat} {m0 : Names} (hw : Wk 0 σ τ) (h : FinRC rs r fm p m0 k1 (hold τ)) : FinRC rs r fm p m0 k1 σ := by
  obtain ⟨τ', hw', hf⟩ := h
  exact ⟨τ', hw.trans hw', hf⟩
theorem kD_low (κ s : Nat) (es : List D) : (kD κ s es).low = true := by unfold kD; split <;> rfl
theorem kD_rk (ρ : Nat → Nat) (κ s : Nat) (es : List D) : (kD κ s es).rk ρ = kD (ρ κ) s es := by unfold kD; split <;> rfl
theorem kD_rnk (L : List Nat) (κ s : Nat) (es : List D) : (kD κ s es).rnk L = kD κ s es := rnk_low L _ (kD_low κ s es)
theorem kD_cells (κ s : Nat) (es : List D) : (kD κ s es).cells = [kD κ s es] := by unfold kD; split <;> rfl
theorem kD_one (κ s : Nat) (es : List D) : (kD κ s es).one = true := by unfold kD; split <;> rfl
attribute [go_sem] kD_low kD_rk kD_rnk kD_cells kD_one D.low D.lowL D.rk D.rkL
attribute [go_sem ↓ high] kD_one
/-- A row of which the first i have been made. -/
def filK (f : Nat → D) (z : D) (n i : Nat) : List D := (List.range n).map fun j => if j < i then f j else z
theorem filK_len (f : Nat → D) (z : D) (n i : Nat) : (filK f z n i).length = n := by unfold filK; rw [List.length_map, List.length_range]
theorem filK_at (f : Nat → D) (z : D) {n i j : Nat} (h : j < n) : (filK f z n i)[j]? = some (if j < i then f j else z) := by unfold filK; rw [List.getElem?_map, List.getElem?_range h]; rfl
theorem filK_zero (f : Nat → D) (z : D) (n : Nat) : List.replicate n z = filK f z n 0 := by
  apply List.ext_getElem?
  intro j
  by_cases h : j < n
  · rw [filK_at f z h, if_neg (by omega), List.getElem?_replicate, if_pos h]
  · rw [List.getElem?_eq_none (by rw [List.length_replicate]; omega), List.getElem?_eq_none (by rw [filK_len]; omega)]
theorem filK_set (f : Nat → D) (z : D) {n i : Nat} (h : i < n) : (filK f z n i).set i (f i) = filK f z n (i + 1) := by
  apply List.ext_getElem?
  intro j
  by_cases hj : j < n
  · rw [filK_at f z hj, List.getElem?_set]
    by_cases e : i = j
    · subst e
      rw [if_pos rfl, if_pos (by rw [filK_len]; exact hj), if_pos (by omega)]
    · rw [if_neg e, filK_at f z hj]
      by_cases h2 : j < i
      · rw [if_pos h2, if_pos (by omega)]
      · rw [if_neg h2, if_neg (by omega)]
  · rw [List.getElem?_eq_none (by rw [List.length_set, filK_len]; omega), List.getElem?_eq_none (by rw [filK_len]; omega)]
theorem filK_low (f : Nat → D) (z : D) (hf : ∀ j, (f j).low = true) (hz : z.low = true) (n i : Nat) : D.lowL (filK f z n i) = true := D.lowL_iff.2 fun d hd => by
  obtain ⟨j, _, rfl⟩ := List.mem_map.1 hd
  split
  · exact hf j
  · exact hz
/-- An expression whose kids lie under a key. -/
def eK (κ : Nat) (e : E) : D := .agg [I e.k, I e.c, Bo e.v.b, I e.v.n, kD κ 5 (e.ks.map eD)]
theorem eK_low (κ : Nat) (e : E) : (eK κ e).low = true := by unfold eK; simp only [go_sem]
theorem eK_rk (ρ : Nat → Nat) (κ : Nat) (e : E) : (eK κ e).rk ρ = eK (ρ κ) e := by unfold eK; simp only [go_sem]
theorem eK_leaf {e : E} (h : e.ks = []) (κ : Nat) : eK κ e = eD e := by unfold eK kD; rw [eD_eq, h]; rfl
/-- How many of the first i have kids. -/
def cntK (l : List E) (i : Nat) : Nat := ((l.take i).filter fun e => !e.ks.isEmpty).length
def nk (e : E) : Nat := if e.ks = [] then 0 else 1
theorem cntK_zero (l : List E) : cntK l 0 = 0 := by unfold cntK; rw [List.take_zero]; rfl
theorem cntK_next {l : List E} {i : Nat} {x : E} (h : l[i]? = some x) : cntK l (i + 1) = cntK l i + nk x := by
  unfold cntK nk
  rw [take_next h, List.filter_append, List.length_append]
  congr 1
  by_cases h0 : x.ks = []
  · rw [if_pos h0, List.filter_cons, h0]; rfl
  · rw [if_neg h0, List.filter_cons]
    have : (!x.ks.isEmpty) = true := by cases hk : x.ks with
      | nil => exact absurd hk h0
      | cons _ _ => rfl
    rw [this]; rfl
theorem cntK_le (l : List E) : ∀ i, 2 * cntK l i ≤ eszL l := by
  have h2 : ∀ m : List E, m.length + (m.filter fun e => !e.ks.isEmpty).length ≤ eszL m := by
    intro m
    induction m with
    | nil => exact Nat.zero_le _
    | cons e m ih =>
      have he := esz_eq e
      have hk := eszL_len e.ks
      rw [eszL, List.filter_cons, List.length_cons]
      split
      · rename_i h
        rw [List.length_cons]
        have : 0 < e.ks.length := by cases hk : e.ks with
          | nil => rw [hk] at h; cases h
          | cons _ _ => rw [List.length_cons]; omega
        omega
      · omega
  intro i
  have h3 := h2 (l.take i)
  have h4 := List.length_filter_le (fun e : E => !e.ks.isEmpty) (l.take i)
  have h5 : eszL (l.take i) ≤ eszL l := by
    have := eszL_append (l.take i) (l.drop i)
    rw [List.take_append_drop] at this
    omega
  unfold cntK
  omega
/-- How the copying of a list of expressions stands: i have been copied; at the end all of them are one tree. -/
def kidI (l : List E) (j : Nat) : It := ⟨cntK l j, 5, match l[j]? with
  | some e => e.ks.map eD
  | none => []⟩
def toEF (l : List E) : Fm where
  top i := if i ≤ l.length then cntK l i else cntK l l.length + 1
  its i := if i ≤ l.length then (List.range i).map (kidI l) else [⟨cntK l l.length, 5, l.map eD⟩]
theorem toEF_top (l : List E) {i : Nat} (h : i ≤ l.length) : (toEF l).top i = cntK l i := if_pos h
theorem toEF_topE (l : List E) : (toEF l).top (l.length + 1) = cntK l l.length + 1 := if_neg (by omega)
theorem toEF_its (l : List E) {i : Nat} (h : i ≤ l.length) : (toEF l).its i = (List.range i).map (kidI l) := if_pos h
theorem toEF_next {l : List E} {i : Nat} {x : E} (h : l[i]? = some x) : (toEF l).its (i + 1) = (toEF l).its i ++ [⟨cntK l i, 5, x.ks.map eD⟩] := by
  have hl := (List.getElem?_eq_some_iff.1 h).1
  rw [toEF_its l (by omega), toEF_its l (by omega), List.range_succ, List.map_append]
  show _ ++ [kidI l i] = _
  unfold kidI
  rw [h]
theorem toEF_end (l : List E) : (toEF l).its (l.length + 1) = [⟨cntK l l.length, 5, l.map eD⟩] := if_neg (by omega)
theorem cntK_mono (l : List E) {i j : Nat} (h : i ≤ j) : cntK l i ≤ cntK l j := by
  unfold cntK
  have : l.take i = (l.take j).take i := by rw [List.take_take, Nat.min_eq_left h]
  rw [this]
  exact (((List.take_sublist i (l.take j)).filter _).length_le)
theorem toEF_lt {l : List E} {i : Nat} (h : i ≤ l.length) : ∀ it, it ∈ (toEF l).its i → it.es ≠ [] → it.κ < (toEF l).top i := by
  intro it hit hne
  rw [toEF_its l h] at hit
  rw [toEF_top l h]
  obtain ⟨j, hj, rfl⟩ := List.mem_map.1 hit
  have hj := List.mem_range.1 hj
  obtain ⟨x, hx⟩ : ∃ x, l[j]? = some x := ⟨_, List.getElem?_eq_getElem (by omega)⟩
  have h1 := cntK_next hx
  have h2 := cntK_mono l (show j + 1 ≤ i by omega)
  have h3 : nk x = 1 := by
    unfold nk
    refine if_neg (fun h => hne ?_)
    unfold kidI
    simp only [hx, h, List.map_nil]
  show cntK l j < cntK l i
  omega
theorem flat_eD : ∀ l : List E, D.flat (l.map eD) = l.flatMap fun e => [I e.k, I e.c, Bo e.v.b, I e.v.n, .sl 5 (e.ks.map eD)]
  | [] => rfl
  | e :: l => by
    have ih := flat_eD l
    unfold D.flat at ih ⊢
    rw [List.map_cons, List.flatMap_cons, List.flatMap_cons, ih, eD_eq]
    rfl
/-- The trees of the cells of a row of expressions: one for each element. -/
theorem its_eD (key : Nat → Nat) : ∀ (l : List E) (a : Nat) (f : Nat → Nat), (∀ i, i < l.length → key (5 * (a + i) + 4) = f i) → itsC key (5 * a) (D.flat (l.map eD)) = l.zipIdx.map fun p => ⟨f p.2, 5, p.1.ks.map eD⟩
  | [], a, f, _ => rfl
  | e :: l, a, f, h => by
    have ih := its_eD key l (a + 1) (fun i => f (i + 1)) (fun i hi => by
      have := h (i + 1) (by rw [List.length_cons]; omega)
      rw [show a + (i + 1) = a + 1 + i by omega] at this
      exact this)
    have h0 := h 0 (by rw [List.length_cons]; omega)
    rw [flat_eD, List.flatMap_cons, ← flat_eD]
    show itsC key (5 * a) (I e.k :: I e.c :: Bo e.v.b :: I e.v.n :: .sl 5 (e.ks.map eD) :: D.flat (l.map eD)) = _
    simp only [itsC, itC, List.nil_append, List.zipIdx_cons, List.map_cons, List.cons_append]
    rw [show 5 * a + 1 + 1 + 1 + 1 = 5 * (a + 0) + 4 by omega, h0]
    congr 1
    rw [show 5 * (a + 0) + 4 + 1 = 5 * (a + 1) by omega, ih, List.zipIdx_succ, List.map_map]
    rfl
/-- The elements of a list of expressions, those of the first i copied, each one's kids under its key. -/
def keyE (l : List E) (j : Nat) : D := match l[j]? with
  | some e => eK (cntK l j) e
  | none => zED
theorem keyE_at {l : List E} {j : Nat} {e : E} (h : l[j]? = some e) : keyE l j = eK (cntK l j) e := by unfold keyE; rw [h]
theorem keyE_low (l : List E) (j : Nat) : (keyE l j).low = true := by
  unfold keyE
  split
  · exact eK_low _ _
  · rfl
def keyC (l : List E) (j : Nat) : Nat := cntK l (j / 5)
theorem cells_eD (key : Nat → Nat) : ∀ (l : List E) (a j : Nat) (d : D), (D.flat (l.map eD))[j]? = some d → treC d = true ∧ (D.flat ((l.zipIdx a).map fun p => eK (key (5 * p.2 + 4)) p.1))[j]? = some (kC (key (5 * a + j)) d)
  | [], _, j, d, h => by simp [D.flat] at h
  | e :: l, a, j, d, h => by
    have ih := cells_eD key l (a + 1)
    rw [flat_eD, List.flatMap_cons, ← flat_eD] at h
    have e1 : D.flat (((e :: l).zipIdx a).map fun p => eK (key (5 * p.2 + 4)) p.1) = [I e.k, I e.c, Bo e.v.b, I e.v.n, kD (key (5 * a + 4)) 5 (e.ks.map eD)] ++ D.flat ((l.zipIdx (a + 1)).map fun p => eK (key (5 * p.2 + 4)) p.1) := by
      rw [List.zipIdx_cons, List.map_cons]
      rfl
    rw [e1]
    match j, h with
    | 0, h => obtain rfl := Option.some.inj h; exact ⟨rfl, rfl⟩
    | 1, h => obtain rfl := Option.some.inj h; exact ⟨rfl, rfl⟩
    | 2, h => obtain rfl := Option.some.inj h; exact ⟨rfl, rfl⟩
    | 3, h => obtain rfl := Option.some.inj h; exact ⟨rfl, rfl⟩
    | 4, h => obtain rfl := Option.some.inj h; exact ⟨rfl, rfl⟩
    | j + 5, h =>
      have h2 := ih j d h
      rw [show 5 * a + (j + 5) = 5 * (a + 1) + j by omega]
      exact h2
theorem filK_all (l : List E) : filK (keyE l) zED l.length l.length = l.zipIdx.map fun p => eK (keyC l (5 * p.2 + 4)) p.1 := by
  apply List.ext_getElem?
  intro j
  rw [List.getElem?_map, List.getElem?_zipIdx]
  by_cases h : j < l.length
  · obtain ⟨x, hx⟩ : ∃ x, l[j]? = some x := ⟨_, List.getElem?_eq_getElem h⟩
    rw [filK_at _ _ h, if_pos h, hx, keyE_at hx]
    show _ = some (eK (cntK l ((5 * (0 + j) + 4) / 5)) x)
    rw [show (5 * (0 + j) + 4) / 5 = j by omega]
  · rw [List.getElem?_eq_none (by rw [filK_len]; omega), List.getElem?_eq_none (show l.length ≤ j by omega)]
    rfl
theorem toEF_all (l : List E) : (toEF l).its l.length = itsC (keyC l) 0 (D.flat (l.map eD)) := by
  rw [toEF_its l (Nat.le_refl _)]
  have h := its_eD (keyC l) l 0 (fun i => cntK l i) (fun i _ => by unfold keyC; rw [show (5 * (0 + i) + 4) / 5 = i by omega])
  rw [Nat.mul_zero] at h
  rw [h]
  apply List.ext_getElem?
  intro j
  rw [List.getElem?_map, List.getElem?_map, List.getElem?_zipIdx]
  by_cases hj : j < l.length
  · obtain ⟨x, hx⟩ : ∃ x, l[j]? = some x := ⟨_, List.getElem?_eq_getElem hj⟩
    rw [List.getElem?_range hj, hx]
    show some (kidI l j) = some _
    unfold kidI
    rw [hx, Nat.zero_add]
  · rw [List.getElem?_eq_none (by rw [List.length_range]; omega), List.getElem?_eq_none (show l.length ≤ j by omega)]
    rfl
end Go.Proofs.Ytedmegmhjmabcaa
set_option maxHeartbeats 4000000
set_option maxRecDepth 100000
set_option linter.unusedVariables false
set_option linter.unusedSimpArgs false
namespace Go.Proofs.Ytedmegmhjmabcaa
open Go.RowKit

theorem tableOf_own (w : Int) (k : Nat) (hk : k < 1000) (rs : List (List V)) (hl : rs.length ≤ 400) (hs : RsW k rs) : Does Try.prog 63 [] [I w, rowsD rs] (.agg [I w, .own 1000000 1 rs.length]) [.row 1 ((srt rs).map rowD)] := by
  refine does c_spec_tableOf mixed (Nat.le_of_ble_eq_true rfl) 0 rfl ?_
  conv => arg 3; whnf
  repeat' (first | with_reducible refine acc_none ?_ | (conv in hold _ => simp (disch := omega) only [go_sem]) | refine Stp.go ?_ | (with_reducible first | refine it_pos rfl ?_ | refine it_neg (by decide) ?_ | refine st_nil rfl ?_ | refine s_op ?_ ?_ | exact True.intro) | ((with_reducible first | refine dw_reg0 ?_ | refine dw_regB ?_); (conv => arg 3; whnf)) | (refine Spl.go (fun hq he => ?_) (fun hq he => ?_) <;> first | (exfalso; clear hq; omega) | ((try (first | (conv => arg 8; simp only [hq]) | (conv => arg 4; simp only [hq]))); clear hq)) | ((with_reducible first | refine c_split (fun hq => ?_) (fun hq => ?_) | refine q_split (fun hq => ?_) (fun hq => ?_)) <;> (try (first | (conv => arg 8; simp only [hq]) | (conv => arg 4; simp only [hq])))) | (with_reducible refine fin_0 ?_ (by first | rfl | (conv => lhs; simp only [go_sem])) ?_) | exact Sub.refl _ | omega)
  refine dw_for (c := 3) (l := fun i => [(0, I w), (1, rowsD rs), (4, .ref 1000000 0), (5, .ref 1000001 0), (6, I i), (1000000, .obj [I 0, .nul]), (1000001, .obj [I w, .own 1000002 1 i]), (1000002, .row 1 ((srt (rs.take i)).map rowD))]) rs.length (fun _ => True) 0 trivial ((wk_rowO 2000005 2000090 1 1 (by decide) (by decide) (by decide) rfl rfl rfl).trans (Wk.list [2000004, 2000005, 2000090] rfl rfl ?_)) (fun i hi _ => ?_) (Nat.zero_le _)
  · repeat' (first | (conv in hold _ => simp (disch := omega) only [go_sem]) | exact True.intro | exact Sub.refl _ | omega)
    exact ⟨rfl, rfl⟩
  · have htl : (srt (rs.take i)).length = i := by rw [srt_len]; exact take_len hi
    have htk : ((srt (rs.take i)).map rowD).take i = (srt (rs.take i)).map rowD := List.take_of_length_le (by rw [List.length_map, htl]; exact Nat.le_refl _)
    rcases at_or_end hi with ⟨x, hx, hlt⟩ | rfl
    · have hnx := srt_next hx
      have hts : RsW k (srt (rs.take i)) := srt_rsw (hs.take i)
      have hin := insertRow_own (srt (rs.take i)) x k hk (by omega) (fun r hr => by
        rcases List.mem_cons.1 hr with rfl | hr
        · exact hs r (List.mem_of_getElem? hx)
        · exact hts r hr) (srt_asc (hs.take i))
      rw [← hnx] at hin
      have hnl : (srt (rs.take (i + 1))).length = i + 1 := by rw [srt_len]; exact take_len (by omega)
      rw [hnl] at hin
      repeat' ((fail_if_success (with_reducible first | refine s_call ?_ | refine s_cal ?_ | refine s_inv ?_)); first | with_reducible refine acc_none ?_ | (conv in hold _ => simp (disch := omega) only [go_sem, List.getElem?_map, hx, Option.map_some]) | refine Stp.go ?_ | (with_reducible first | refine it_pos rfl ?_ | refine it_neg (by decide) ?_ | refine st_nil rfl ?_ | refine s_op ?_ ?_ | exact True.intro) | ((with_reducible first | refine dw_reg0 ?_ | refine dw_regB ?_); (conv => arg 3; whnf)) | (refine Spl.go (fun hq he => ?_) (fun hq he => ?_) <;> first | (exfalso; clear hq; omega) | ((try (first | (conv => arg 8; simp only [hq]) | (conv => arg 4; simp only [hq]))); clear hq)) | ((with_reducible first | refine c_split (fun hq => ?_) (fun hq => ?_) | refine q_split (fun hq => ?_) (fun hq => ?_)) <;> (try (first | (conv => arg 8; simp only [hq]) | (conv => arg 4; simp only [hq])))) | (with_reducible refine fin_0 ?_ (by first | rfl | (conv => lhs; simp only [go_sem, List.getElem?_map, hx, Option.map_some])) ?_) | exact Sub.refl _ | omega)
      refine s_pre (pre_frz (t := 20) (g := 1000002) (by decide) (by decide) rfl ?_) ?_
      rotate_left
      repeat' (first | with_reducible refine acc_none ?_ | (conv in hold _ => simp (disch := omega) only [go_sem, htl, htk, List.length_map, Nat.le_refl, List.getElem?_map, hx, Option.map_some]) | refine Stp.go ?_ | (with_reducible first | refine it_pos rfl ?_ | refine it_neg (by decide) ?_ | refine st_nil rfl ?_ | refine s_op ?_ ?_ | exact True.intro) | ((with_reducible first | refine dw_reg0 ?_ | refine dw_regB ?_); (conv => arg 3; whnf)) | (refine Spl.go (fun hq he => ?_) (fun hq he => ?_) <;> first | (exfalso; clear hq; omega) | ((try (first | (conv => arg 8; simp only [hq]) | (conv => arg 4; simp only [hq]))); clear hq)) | ((with_reducible first | refine c_split (fun hq => ?_) (fun hq => ?_) | refine q_split (fun hq => ?_) (fun hq => ?_)) <;> (try (first | (conv => arg 8; simp only [hq]) | (conv => arg 4; simp only [hq])))) | (with_reducible refine fin_0 ?_ (by first | rfl | (conv => lhs; simp only [go_sem, htl, htk, List.length_map, Nat.le_refl, List.getElem?_map, hx, Option.map_some])) ?_) | exact Sub.refl _ | omega)
      refine c_doesR [3000001] (hin) (callOK_of rfl (Nat.le_of_ble_eq_true rfl) rfl ?_ ?_) ?_ ?_
      · repeat' (first | (conv in hold _ => simp (disch := omega) only [go_sem, List.getElem?_map, hx, Option.map_some]) | exact True.intro | exact Sub.refl _ | omega)
      · repeat' (first | (conv in hold _ => simp (disch := omega) only [go_sem, List.getElem?_map, hx, Option.map_some]) | exact True.intro | exact Sub.refl _ | omega)
      · ((conv => rhs; simp (disch := omega) only [go_sem, List.getElem?_map, hx, Option.map_some]); try rfl)
      repeat' (first | with_reducible refine acc_none ?_ | (conv in hold _ => simp (disch := omega) only [go_sem, List.getElem?_map, hx, Option.map_some]) | refine Stp.go ?_ | (with_reducible first | refine it_pos rfl ?_ | refine it_neg (by decide) ?_ | refine st_nil rfl ?_ | refine s_op ?_ ?_ | exact True.intro) | ((with_reducible first | refine dw_reg0 ?_ | refine dw_regB ?_); (conv => arg 3; whnf)) | (refine Spl.go (fun hq he => ?_) (fun hq he => ?_) <;> first | (exfalso; clear hq; omega) | ((try (first | (conv => arg 8; simp only [hq]) | (conv => arg 4; simp only [hq]))); clear hq)) | ((with_reducible first | refine c_split (fun hq => ?_) (fun hq => ?_) | refine q_split (fun hq => ?_) (fun hq => ?_)) <;> (try (first | (conv => arg 8; simp only [hq]) | (conv => arg 4; simp only [hq])))) | (with_reducible refine fin_0 ?_ (by first | rfl | (conv => lhs; simp only [go_sem, List.getElem?_map, hx, Option.map_some])) ?_) | exact Sub.refl _ | omega)
      · refine ⟨hlt, trivial, Wk.list [1000000, 1000001, 3000001] rfl rfl ?_⟩
        repeat' (first | (conv in hold _ => simp (disch := omega) only [go_sem]) | exact True.intro | exact Sub.refl _ | omega)
      · exact rows_pur _
    · have e1 : rs.take rs.length = rs := List.take_length
      repeat' (first | with_reducible refine acc_none ?_ | (conv in hold _ => simp (disch := omega) only [go_sem, e1]) | refine Stp.go ?_ | (with_reducible first | refine it_pos rfl ?_ | refine it_neg (by decide) ?_ | refine st_nil rfl ?_ | refine s_op ?_ ?_ | exact True.intro) | ((with_reducible first | refine dw_reg0 ?_ | refine dw_regB ?_); (conv => arg 3; whnf)) | (refine Spl.go (fun hq he => ?_) (fun hq he => ?_) <;> first | (exfalso; clear hq; omega) | ((try (first | (conv => arg 8; simp only [hq]) | (conv => arg 4; simp only [hq]))); clear hq)) | ((with_reducible first | refine c_split (fun hq => ?_) (fun hq => ?_) | refine q_split (fun hq => ?_) (fun hq => ?_)) <;> (try (first | (conv => arg 8; simp only [hq]) | (conv => arg 4; simp only [hq])))) | (with_reducible refine fin_0 ?_ (by first | rfl | (conv => lhs; simp only [go_sem, e1])) ?_) | exact Sub.refl _ | omega)
      refine fin_L [1000002] ?_ ?_ rfl ?_
      repeat' (first | (conv in hold _ => simp (disch := omega) only [go_sem, e1]) | exact True.intro | exact Sub.refl _ | omega)
theorem tableOf_big (w : Int) (rs : List (List V)) (hl : ¬ rs.length ≤ 400) (hl2 : rs.length < 2000000) : Does Try.prog 63 [] [I w, rowsD rs] (.agg [I w, .nul]) [] := by
  refine does0 c_spec_tableOf mixed (Nat.le_of_ble_eq_true rfl) ?_
  conv => arg 3; whnf
  repeat' (first | with_reducible refine acc_none ?_ | (conv in hold _ => simp (disch := omega) only [go_sem]) | refine Stp.go ?_ | (with_reducible first | refine it_pos rfl ?_ | refine it_neg (by decide) ?_ | refine st_nil rfl ?_ | refine s_op ?_ ?_ | exact True.intro) | ((with_reducible first | refine dw_reg0 ?_ | refine dw_regB ?_); (conv => arg 3; whnf)) | (refine Spl.go (fun hq he => ?_) (fun hq he => ?_) <;> first | (exfalso; clear hq; omega) | ((try (first | (conv => arg 8; simp only [hq]) | (conv => arg 4; simp only [hq]))); clear hq)) | ((with_reducible first | refine c_split (fun hq => ?_) (fun hq => ?_) | refine q_split (fun hq => ?_) (fun hq => ?_)) <;> (try (first | (conv => arg 8; simp only [hq]) | (conv => arg 4; simp only [hq])))) | (with_reducible refine fin_0 ?_ (by first | rfl | (conv => lhs; simp only [go_sem])) ?_) | exact Sub.refl _ | omega)
end Go.Proofs.Ytedmegmhjmabcaa
