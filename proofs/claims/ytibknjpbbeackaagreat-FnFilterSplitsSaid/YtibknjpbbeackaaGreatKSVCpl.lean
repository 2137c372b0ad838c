/-
  Plans put together out of a plan: filters and projections, their width and what they make. No condition.
-/
import Derived.Test.YtibknjpbbeackaaGreatJSVPiQ
set_option maxHeartbeats 4000000
set_option maxRecDepth 100000
set_option linter.unusedVariables false
set_option linter.unusedSimpArgs false
namespace Go.Proofs.YtibknjpbbeackaaGreat
open Go.RowKit
theorem wd_in {ws : List Int} (hw : wsOk ws) {p : Pl} (hs : psz p ≤ 1048576) {d : Nat} (hd : d < 1000) : 0 ≤ wdV ws p d ∧ wdV ws p d ≤ 6 := (width_fn hw p hs d hd).1
theorem zero_1 {n : Int} (h : n ≠ 0) : ¬ zeroIn [n] := by
  rintro ⟨j, hj⟩
  cases j with
  | zero => exact h (by simpa using hj)
  | succ j => simp at hj
theorem wd_1 {ws : List Int} {k : Int} {es : List E} {cs : List Int} {p : Pl} {d : Nat} (hk : k ≠ 1) (hf : fields (.mk k 0 es cs [p])) : wdV ws (.mk k 0 es cs [p]) (d + 1) = resV (.mk k 0 es cs [p]) [wdV ws p d] := by
  rw [wd_eq, if_pos hf, if_neg (show ¬ (Pl.mk k 0 es cs [p]).k = 1 from hk), if_neg (Nat.succ_ne_zero d)]
  rfl
theorem wd_1t {ws : List Int} {k : Int} {es : List E} {cs : List Int} {p : Pl} {d : Nat} (hk : k ≠ 1) (hf : fieldsI (.mk k 0 es cs [p])) (h0 : wdV ws p d ≠ 0) (hv : fitsV (.mk k 0 es cs [p]) [wdV ws p d]) : wdV ws (.mk k 0 es cs [p]) (d + 1) = fromV (.mk k 0 es cs [p]) [wdV ws p d] := by
  rw [wd_1 hk hf.1, resV_t (zero_1 h0) hf hv]
theorem wd_1z {ws : List Int} {k : Int} {es : List E} {cs : List Int} {p : Pl} {d : Nat} (hk : k ≠ 1) (h0 : wdV ws p d = 0) : wdV ws (.mk k 0 es cs [p]) (d + 1) = 0 :=
  Classical.byContradiction fun h => (wd_fit h (show ¬ (Pl.mk k 0 es cs [p]).k = 1 from hk)).2.2 p (List.mem_cons_self ..) (by simpa using h0)
theorem fits_v {p : Pl} {ns : List Int} (h6 : ¬ p.k = 6) (h8 : ¬ p.k = 8) (h : ∀ (j : Nat) (e : E), p.es[j]? = some e → (1 ≤ ns.sum ∧ ns.sum ≤ 6) ∧ eOk e ns.sum 8) : fitsV p ns := by
  unfold fitsV
  rw [if_neg h6, if_neg h8]
  exact h
def fiP (e : E) (p : Pl) : Pl := .mk 2 0 [e] [] [p]
theorem fi_wd {ws : List Int} {p : Pl} {d : Nat} {e : E} (hr : 0 ≤ wdV ws p d ∧ wdV ws p d ≤ 6) (he : 1 ≤ wdV ws p d → eOk e (wdV ws p d) 8) : wdV ws (fiP e p) (d + 1) = wdV ws p d := by
  by_cases h0 : wdV ws p d = 0
  · rw [h0]; exact wd_1z (by decide) h0
  · have hf : fieldsI (fiP e p) := by
      refine ⟨?_, fun h => absurd (show (2 : Int) = 3 from h) (by decide)⟩
      simp [fields, fiP, Pl.k, Pl.ks, Pl.es, Pl.cs, Pl.t]
    refine (wd_1t (by decide) hf h0 ?_).trans rfl
    refine fits_v (fun h => absurd (show (2 : Int) = 6 from h) (by decide)) (fun h => absurd (show (2 : Int) = 8 from h) (by decide)) (fun j x hj => ?_)
    have hsum : [wdV ws p d].sum = wdV ws p d := by simp
    rw [hsum]
    have hx : x = e := by
      cases j with
      | zero => exact (by simpa [Pl.es] using hj.symm)
      | succ j => simp [Pl.es] at hj
    rw [hx]
    exact ⟨by omega, he (by omega)⟩
theorem fi_ev (db : List Ta) (p : Pl) (e : E) : evP db (fiP e p) = tabT (evP db p).w ((evP db p).rows.filter (holdsB e)) := by
  rw [evP_1 (q := p) rfl]
  unfold opT
  rw [if_neg (show ¬ (fiP e p).k = 1 from fun h => absurd h (by decide : ¬ (2 : Int) = 1)), if_pos (show (fiP e p).k = 2 from rfl)]
  rfl
theorem fi_tab {n : Nat} {t : Ta} (h : TabW n t) (q : List V → Bool) : tabT t.w (t.rows.filter q) = ⟨t.w, t.rows.filter q⟩ ∧ TabW n ⟨t.w, t.rows.filter q⟩ := by
  have hs : (t.rows.filter q).Sublist t.rows := List.filter_sublist
  have hl : (t.rows.filter q).length ≤ 400 := Nat.le_trans hs.length_le h.few
  have hr : RsW n (t.rows.filter q) := fun r hr => h.row r (List.mem_filter.1 hr).1
  have ha : Asc (t.rows.filter q) := h.asc.sublist hs
  exact ⟨by rw [tabT_s hl, srt_of_asc hr ha], ⟨h.wid, hr, hl, ha⟩⟩
theorem fi_psz (e : E) (p : Pl) : psz (fiP e p) = esz e + psz p + 1 := by
  unfold fiP
  rw [psz, eszL, eszL, pszL, pszL, List.length_nil]
  omega
def colE (i : Nat) : E := .mk 1 i ⟨false, 0⟩ []
def allE (n : Nat) : List E := (List.range n).map colE
def prP (es : List E) (p : Pl) : Pl := .mk 3 0 es [] [p]
theorem col_ok {i : Nat} {n : Int} (h : (i : Int) < n) (d : Nat) : eOk (colE i) n d := by
  unfold colE
  rw [eOk]
  exact ⟨rfl, fun h => absurd h (by decide), by rw [eOkL]; trivial, by unfold leafOk; rw [if_pos rfl]; exact ⟨by omega, by omega, rfl, rfl⟩⟩
theorem allE_len (n : Nat) : (allE n).length = n := by unfold allE; rw [List.length_map, List.length_range]
theorem pr_ev (db : List Ta) (p : Pl) (es : List E) : evP db (prP es p) = tabT es.length ((evP db p).rows.map (prjR es)) := by
  rw [evP_1 (q := p) rfl]
  unfold opT
  rw [if_neg (show ¬ (prP es p).k = 1 from fun h => absurd h (by decide : ¬ (3 : Int) = 1)), if_neg (show ¬ (prP es p).k = 2 from fun h => absurd h (by decide : ¬ (3 : Int) = 2)), if_pos (show (prP es p).k = 3 from rfl)]
  rfl
theorem ev_colE {i : Nat} {r : List V} {v : V} (h : r[i]? = some v) : ev (colE i) r = v := ev_col rfl h
theorem prj_all (r : List V) : prjR (allE r.length) r = r := by
  apply List.ext_getElem?
  intro i
  unfold prjR allE
  rw [List.map_map, List.getElem?_map]
  by_cases hi : i < r.length
  · rw [List.getElem?_range hi, Option.map_some, List.getElem?_eq_getElem hi]
    exact congrArg some (ev_colE (List.getElem?_eq_getElem hi))
  · rw [List.getElem?_eq_none (by rw [List.length_range]; omega), List.getElem?_eq_none (by omega)]
    rfl
theorem pr_all {db : List Ta} {p : Pl} {n : Nat} (h : TabW n (evP db p)) : evP db (prP (allE n) p) = evP db p := by
  have hm : (evP db p).rows.map (prjR (allE n)) = (evP db p).rows := by
    refine (List.map_congr_left (fun r hr => ?_)).trans (List.map_id _)
    have := (h.row r hr).1
    rw [← this]
    exact prj_all r
  rw [pr_ev, allE_len, hm, tabT_s h.few, srt_of_asc h.row h.asc, ← h.wid]
/-! Plans over two kids. -/
theorem zero_2 {a b : Int} (ha : a ≠ 0) (hb : b ≠ 0) : ¬ zeroIn [a, b] := by
  rintro ⟨j, hj⟩
  cases j with
  | zero => exact ha (by simpa using hj)
  | succ j =>
    cases j with
    | zero => exact hb (by simpa using hj)
    | succ j => simp at hj
theorem wd_2 {ws : List Int} {k : Int} {es : List E} {cs : List Int} {p q : Pl} {d : Nat} (hk : k ≠ 1) (hf : fields (.mk k 0 es cs [p, q])) : wdV ws (.mk k 0 es cs [p, q]) (d + 1) = resV (.mk k 0 es cs [p, q]) [wdV ws p d, wdV ws q d] := by
  rw [wd_eq, if_pos hf, if_neg (show ¬ (Pl.mk k 0 es cs [p, q]).k = 1 from hk), if_neg (Nat.succ_ne_zero d)]
  rfl
theorem wd_2t {ws : List Int} {k : Int} {es : List E} {cs : List Int} {p q : Pl} {d : Nat} (hk : k ≠ 1) (hf : fieldsI (.mk k 0 es cs [p, q])) (h0 : wdV ws p d ≠ 0) (h1 : wdV ws q d ≠ 0) (hv : fitsV (.mk k 0 es cs [p, q]) [wdV ws p d, wdV ws q d]) :
    wdV ws (.mk k 0 es cs [p, q]) (d + 1) = fromV (.mk k 0 es cs [p, q]) [wdV ws p d, wdV ws q d] := by
  rw [wd_2 hk hf.1, resV_t (zero_2 h0 h1) hf hv]
theorem wd_2z {ws : List Int} {k : Int} {es : List E} {cs : List Int} {p q : Pl} {d : Nat} (hk : k ≠ 1) (h0 : wdV ws p d = 0 ∨ wdV ws q d = 0) : wdV ws (.mk k 0 es cs [p, q]) (d + 1) = 0 := by
  refine Classical.byContradiction fun h => ?_
  have hx := (wd_fit h (show ¬ (Pl.mk k 0 es cs [p, q]).k = 1 from hk)).2.2
  rcases h0 with h0 | h0
  · exact hx p (List.mem_cons_self ..) (by simpa using h0)
  · exact hx q (List.mem_cons_of_mem _ (List.mem_cons_self ..)) (by simpa using h0)
def unP (p q : Pl) : Pl := .mk 6 0 [] [] [p, q]
theorem un_fields (p q : Pl) : fieldsI (unP p q) := by
  refine ⟨?_, fun h => absurd (show (6 : Int) = 3 from h) (by decide)⟩
  simp [fields, unP, Pl.k, Pl.ks, Pl.es, Pl.cs, Pl.t]
theorem un_wd {ws : List Int} {p q : Pl} {d : Nat} : wdV ws (unP p q) (d + 1) = if wdV ws p d = 0 ∨ wdV ws q d = 0 ∨ wdV ws p d ≠ wdV ws q d then 0 else wdV ws p d := by
  by_cases h0 : wdV ws p d = 0 ∨ wdV ws q d = 0
  · rw [if_pos (h0.elim Or.inl (fun h => Or.inr (Or.inl h)))]
    exact wd_2z (by decide) h0
  · by_cases he : wdV ws p d = wdV ws q d
    · rw [if_neg (fun h => h.elim (fun h => h0 (Or.inl h)) (fun h => h.elim (fun h => h0 (Or.inr h)) (fun h => h he)))]
      refine (wd_2t (by decide) (un_fields p q) (fun h => h0 (Or.inl h)) (fun h => h0 (Or.inr h)) ?_).trans rfl
      unfold fitsV
      rw [if_pos (show (Pl.mk 6 0 [] [] [p, q]).k = 6 from rfl)]
      exact he
    · rw [if_pos (Or.inr (Or.inr he))]
      refine (wd_2 (by decide) (un_fields p q).1).trans (resV_f fun h => he ?_)
      have hv := h.2
      unfold fitsV at hv
      rw [if_pos (show (Pl.mk 6 0 [] [] [p, q]).k = 6 from rfl)] at hv
      exact hv
theorem un_ev (db : List Ta) (p q : Pl) : evP db (unP p q) = tabT (evP db p).w ((evP db p).rows ++ (evP db q).rows) := by
  rw [evP_2 (q := p) (r := q) rfl]
  unfold opT
  rw [if_neg (show ¬ (unP p q).k = 1 from fun h => absurd h (by decide : ¬ (6 : Int) = 1)), if_neg (show ¬ (unP p q).k = 2 from fun h => absurd h (by decide : ¬ (6 : Int) = 2)), if_neg (show ¬ (unP p q).k = 3 from fun h => absurd h (by decide : ¬ (6 : Int) = 3)), if_neg (show ¬ ((unP p q).k = 4 ∨ (unP p q).k = 5) from fun h => h.elim (fun h => absurd h (by decide : ¬ (6 : Int) = 4)) (fun h => absurd h (by decide : ¬ (6 : Int) = 5))), if_pos (show (unP p q).k = 6 from rfl)]
end Go.Proofs.YtibknjpbbeackaaGreat
