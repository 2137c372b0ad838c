/-
  What plans put together make: filters twice and divided, a union with itself. No condition.
-/
import Derived.Test.YtibknjpbbeackaaGreatKSVCpl
import Derived.Test.YtibknjpbbeackaaGreatJSVTru
import Derived.Test.YtibknjpbbeackaaGreatJSVWidC
import Derived.Test.YtibknjpbbeackaaGreatKSDca
import Derived.Test.YtibknjpbbeackaaGreatJSDcg
import Derived.Test.YtibknjpbbeackaaGreatJSVEvS
import Derived.Test.YtibknjpbbeackaaGreatJSVLaw
import Derived.Test.YtibknjpbbeackaaGreatJSVGo
set_option maxHeartbeats 4000000
set_option maxRecDepth 100000
set_option linter.unusedVariables false
set_option linter.unusedSimpArgs false
namespace Go.Proofs.YtibknjpbbeackaaGreat
open Go.RowKit
def twoE (k : Int) (a b : E) : E := .mk k 0 ⟨false, 0⟩ [a, b]
def oneE (k : Int) (a : E) : E := .mk k 0 ⟨false, 0⟩ [a]
def cstE (v : V) : E := .mk 2 0 v []
theorem cst_w {v : V} (hv : v.ok) (n : Int) (d : Nat) : eOk (cstE v) n d := by
  unfold cstE
  rw [eOk]
  exact ⟨rfl, fun h => absurd h (by decide), by rw [eOkL]; trivial, by unfold leafOk; rw [if_neg (by decide), if_pos rfl]; exact ⟨rfl, hv⟩⟩
theorem two_w {k : Int} (hk : 3 ≤ k ∧ k ≤ 9) {a b : E} {n : Int} {d : Nat} (ha : eOk a n d) (hb : eOk b n d) : eOk (twoE k a b) n (d + 1) := by
  unfold twoE
  rw [eOk]
  refine ⟨?_, fun _ => Nat.succ_ne_zero d, ?_, ?_⟩
  · unfold kidsN
    rw [if_neg (by omega), if_neg (by omega), if_pos hk]
    rfl
  · rw [eOkL, eOkL, eOkL]
    exact ⟨ha, hb, trivial⟩
  · unfold leafOk
    rw [if_neg (by omega), if_neg (by omega)]
    exact ⟨rfl, rfl, rfl⟩
theorem one_w {k : Int} (hk : k = 10 ∨ k = 11) {a : E} {n : Int} {d : Nat} (ha : eOk a n d) : eOk (oneE k a) n (d + 1) := by
  unfold oneE
  rw [eOk]
  refine ⟨?_, fun _ => Nat.succ_ne_zero d, ?_, ?_⟩
  · unfold kidsN
    rw [if_neg (by omega), if_pos hk]
    rfl
  · rw [eOkL, eOkL]
    exact ⟨ha, trivial⟩
  · unfold leafOk
    rw [if_neg (by omega), if_neg (by omega)]
    exact ⟨rfl, rfl, rfl⟩
theorem fi_fi {db : List Ta} {p : Pl} {n : Nat} (h : TabW n (evP db p)) (e f : E) : evP db (fiP e (fiP f p)) = ⟨(evP db p).w, ((evP db p).rows.filter (holdsB f)).filter (holdsB e)⟩ := by
  obtain ⟨h1, h2⟩ := fi_tab h (holdsB f)
  rw [fi_ev, fi_ev, h1]
  exact (fi_tab h2 (holdsB e)).1
theorem fi_same {db : List Ta} {p : Pl} {n : Nat} (h : TabW n (evP db p)) (e : E) : evP db (fiP e (fiP e p)) = evP db (fiP e p) := by
  rw [fi_fi h, fi_ev, (fi_tab h (holdsB e)).1, List.filter_filter]
  congr 1
  exact List.filter_congr (fun r _ => Bool.and_self _)
theorem fi_swap {db : List Ta} {p : Pl} {n : Nat} (h : TabW n (evP db p)) (e f : E) : evP db (fiP e (fiP f p)) = evP db (fiP f (fiP e p)) := by
  rw [fi_fi h, fi_fi h, List.filter_filter, List.filter_filter]
  congr 1
  exact List.filter_congr (fun r _ => Bool.and_comm _ _)
/-! What a condition, its negation and its null test leave. -/
theorem tr_in (v : V) : tr v = 0 ∨ tr v = 1 ∨ tr v = 2 := by
  unfold tr
  split
  · exact Or.inr (Or.inr rfl)
  · split
    · exact Or.inl rfl
    · exact Or.inr (Or.inl rfl)
theorem holds_not (e : E) (r : List V) : holdsB (oneE 10 e) r = (tr (ev e r) == 0) := by
  unfold holdsB oneE
  rw [ev, evL, if_neg (by decide), if_neg (by decide)]
  show (tr (ofTr (notTr (tr (ev e r)))) == 1) = _
  rcases tr_in (ev e r) with h | h | h <;> rw [h] <;> rfl
theorem holds_nul (e : E) (r : List V) : holdsB (oneE 11 e) r = (ev e r).b := by
  unfold holdsB oneE
  rw [ev, evL, if_neg (by decide), if_neg (by decide)]
  show (tr ⟨false, b2i (ev e r).b⟩ == 1) = _
  cases (ev e r).b <;> rfl
theorem tr_b (v : V) : (tr v == 2) = v.b := by
  unfold tr
  cases h : v.b with
  | true => rfl
  | false =>
    rw [if_neg (by decide)]
    split <;> rfl
theorem split_perm {α : Type} (f : α → Int) (hf : ∀ x, f x = 0 ∨ f x = 1 ∨ f x = 2) : ∀ l : List α, (((l.filter (fun x => f x == 1)) ++ (l.filter (fun x => f x == 0))) ++ l.filter (fun x => f x == 2)).Perm l
  | [] => List.Perm.refl _
  | x :: l => by
    have ih := split_perm f hf l
    rcases hf x with h | h | h
    · rw [List.filter_cons_of_neg (by rw [h]; decide), List.filter_cons_of_pos (by rw [h]; decide), List.filter_cons_of_neg (by rw [h]; decide), List.append_assoc, List.cons_append]
      refine (List.perm_middle).trans (List.Perm.cons x ?_)
      rw [← List.append_assoc]
      exact ih
    · rw [List.filter_cons_of_pos (by rw [h]; decide), List.filter_cons_of_neg (by rw [h]; decide), List.filter_cons_of_neg (by rw [h]; decide), List.cons_append, List.cons_append]
      exact List.Perm.cons x ih
    · rw [List.filter_cons_of_neg (by rw [h]; decide), List.filter_cons_of_neg (by rw [h]; decide), List.filter_cons_of_pos (by rw [h]; decide)]
      exact (List.perm_middle).trans (List.Perm.cons x ih)
theorem holds_split (e : E) (rs : List (List V)) : (((rs.filter (holdsB e)) ++ (rs.filter (holdsB (oneE 10 e)))) ++ rs.filter (holdsB (oneE 11 e))).Perm rs := by
  have h := split_perm (fun r => tr (ev e r)) (fun r => tr_in _) rs
  have h1 : rs.filter (holdsB e) = rs.filter (fun r => tr (ev e r) == 1) := rfl
  have h2 : rs.filter (holdsB (oneE 10 e)) = rs.filter (fun r => tr (ev e r) == 0) := List.filter_congr (fun r _ => holds_not e r)
  have h3 : rs.filter (holdsB (oneE 11 e)) = rs.filter (fun r => tr (ev e r) == 2) := List.filter_congr (fun r _ => by rw [holds_nul, tr_b])
  rw [h1, h2, h3]
  exact h
end Go.Proofs.YtibknjpbbeackaaGreat
set_option maxHeartbeats 4000000
set_option maxRecDepth 100000
set_option linter.unusedVariables false
set_option linter.unusedSimpArgs false
namespace Go.Proofs.YtibknjpbbeackaaGreat
open Go.RowKit
theorem tabT_len (w : Int) (l : List (List V)) : (tabT w l).rows.length ≤ l.length := by
  by_cases h : l.length ≤ 400
  · rw [tabT_s h]; exact Nat.le_of_eq (srt_len l)
  · rw [tabT_n h]; exact Nat.zero_le _
theorem dstL_len (rs : List (List V)) : (dstL rs rs.length).length ≤ rs.length := by
  have h := (dstL_sub rs rs.length (Nat.le_refl _)).length_le
  rw [List.take_length] at h
  exact h
theorem grpL_len (cs : List Int) (rs : List (List V)) : (grpL cs rs).length ≤ rs.length := by
  have h := groG_inv cs rs rs.length (Nat.le_refl _)
  rw [List.take_length] at h
  unfold grpL
  rw [List.length_zipWith]
  exact Nat.le_trans (Nat.min_le_left _ _) h.few
theorem rows_rb {ws : List Nat} {db : List Ta} (hs : ∀ t, t ∈ db → t.rows.length ≤ 5) {p : Pl} {n : Nat} (h : Wt ws p n) : (evP db p).rows.length ≤ rb p := by
  induction h with
  | @scan p j w hk ht hw hks =>
    rw [evP_0 hks, rb_0 hks]
    unfold opT
    rw [if_pos hk, ht, Int.toNat_natCast, List.getD_eq_getElem?_getD]
    cases hj : db[j]? with
    | none => exact Nat.zero_le _
    | some t => exact hs t (List.mem_of_getElem? hj)
  | @filter p q w e hk hks hes hq he ih =>
    rw [evP_1 hks, rb_1 hks]
    unfold opT
    rw [if_neg (by omega), if_pos hk]
    exact Nat.le_trans (tabT_len _ _) (Nat.le_trans (List.length_filter_le _ _) ih)
  | @project p q w hk hks hq hes hl ih =>
    rw [evP_1 hks, rb_1 hks]
    unfold opT
    rw [if_neg (by omega), if_neg (by omega), if_pos hk]
    exact Nat.le_trans (tabT_len _ _) (by rw [List.length_map]; exact ih)
  | @join p q r wa wb e hk hks hes hq hr he hw iq ir =>
    rw [evP_2 hks, rb_2 hks, if_neg (by omega)]
    unfold opT
    rw [if_neg (by omega), if_neg (by omega), if_neg (by omega), if_pos hk]
    exact Nat.le_trans (tabT_len _ _) (Nat.le_trans (joiL_len _ _ _ _ _) (Nat.mul_le_mul iq (Nat.succ_le_succ ir)))
  | @union p q r w hk hks hq hr iq ir =>
    rw [evP_2 hks, rb_2 hks, if_pos hk]
    unfold opT
    rw [if_neg (by omega), if_neg (by omega), if_neg (by omega), if_neg (by omega), if_pos hk]
    exact Nat.le_trans (tabT_len _ _) (by rw [List.length_append]; omega)
  | @distinct p q w hk hks hq ih =>
    rw [evP_1 hks, rb_1 hks]
    unfold opT
    rw [if_neg (by omega), if_neg (by omega), if_neg (by omega), if_neg (by omega), if_neg (by omega), if_pos hk]
    exact Nat.le_trans (dstL_len _) ih
  | @group p q w hk hks hq hc hl ih =>
    rw [evP_1 hks, rb_1 hks]
    unfold opT
    rw [if_neg (by omega), if_neg (by omega), if_neg (by omega), if_neg (by omega), if_neg (by omega), if_neg (by omega)]
    exact Nat.le_trans (tabT_len _ _) (Nat.le_trans (grpL_len _ _) ih)
end Go.Proofs.YtibknjpbbeackaaGreat
set_option maxHeartbeats 4000000
set_option maxRecDepth 100000
set_option linter.unusedVariables false
set_option linter.unusedSimpArgs false
namespace Go.Proofs.YtibknjpbbeackaaGreat
open Go.RowKit
def joP (k : Int) (e : E) (p q : Pl) : Pl := .mk k 0 [e] [] [p, q]
theorem jo_ev {db : List Ta} {k : Int} (hk : k = 4 ∨ k = 5) {e : E} {p q : Pl} : evP db (joP k e p q) = tabT ((evP db p).w + (evP db q).w) (joiL (k == 5) (evP db q).w.toNat e (evP db p).rows (evP db q).rows) := by
  rw [evP_2 (q := p) (r := q) rfl]
  unfold opT
  rw [if_neg (show ¬ (joP k e p q).k = 1 from fun h => by have h : k = 1 := h; omega), if_neg (show ¬ (joP k e p q).k = 2 from fun h => by have h : k = 2 := h; omega), if_neg (show ¬ (joP k e p q).k = 3 from fun h => by have h : k = 3 := h; omega), if_pos (show (joP k e p q).k = 4 ∨ (joP k e p q).k = 5 from hk)]
  rfl
theorem fit_join {db : List Ta} {x : Pl} (hf : fitB db x) (hk : x.k = 4 ∨ x.k = 5) : ∃ (e : E) (q r : Pl) (wa wb : Nat), x = joP x.k e q r ∧ (Wt (dbWs db) q wa ∧ Wt (dbWs db) r wb) ∧ TabW wa (evP db q) ∧ TabW wb (evP db r) ∧ (1 ≤ wa ∧ 1 ≤ wb ∧ wa + wb ≤ 6) ∧ TabW (wa + wb) (evP db x) := by
  obtain ⟨n, hn, hwt, hd, hT⟩ := fit_wt hf
  have hw := PV_ok hf.2
  have hfl := wd_fields (by have := hf.2; rw [PV_t hw] at this; exact this)
  unfold fields at hfl
  cases hwt with
  | scan h1 _ _ _ => omega
  | filter h1 _ _ _ _ => omega
  | project h1 _ _ _ _ => omega
  | union h1 _ _ _ => omega
  | distinct h1 _ _ => omega
  | group h1 _ _ _ _ => omega
  | @join _ q r wa wb e h1 hks hes hq hr he hwl =>
    have ha := hq.pos hd.wid
    have hb := hr.pos hd.wid
    refine ⟨e, q, r, wa, wb, ?_, ⟨hq, hr⟩, (evalPlan_ok hd hq).1, (evalPlan_ok hd hr).1, by omega, hT⟩
    cases x with
    | mk k t es cs ks =>
      have h2 : es = [e] := hes
      have h3 : ks = [q, r] := hks
      have h4 : t = 0 := by simp only [Pl.k, Pl.t] at hfl hk; omega
      have h5 : cs = [] := List.length_eq_zero_iff.1 (by simp only [Pl.k, Pl.cs] at hfl hk; omega)
      rw [h2, h3, h4, h5]
      rfl
theorem fit_union {db : List Ta} {x : Pl} (hf : fitB db x) (hk : x.k = 6) : ∃ (q r : Pl) (w : Nat), x = unP q r ∧ (Wt (dbWs db) q w ∧ Wt (dbWs db) r w) ∧ TabW w (evP db q) ∧ TabW w (evP db r) := by
  obtain ⟨n, hn, hwt, hd, hT⟩ := fit_wt hf
  have hw := PV_ok hf.2
  have hfl := wd_fields (by have := hf.2; rw [PV_t hw] at this; exact this)
  unfold fields at hfl
  cases hwt with
  | scan h1 _ _ _ => omega
  | filter h1 _ _ _ _ => omega
  | project h1 _ _ _ _ => omega
  | join h1 _ _ _ _ _ _ => omega
  | distinct h1 _ _ => omega
  | group h1 _ _ _ _ => omega
  | @union _ q r w h1 hks hq hr =>
    refine ⟨q, r, n, ?_, ⟨hq, hr⟩, (evalPlan_ok hd hq).1, (evalPlan_ok hd hr).1⟩
    cases x with
    | mk k t es cs ks =>
      have h1 : k = 6 := h1
      have h2 : es = [] := List.length_eq_zero_iff.1 (by simp only [Pl.k, Pl.es] at hfl hk; omega)
      have h3 : ks = [q, r] := hks
      have h4 : t = 0 := by simp only [Pl.k, Pl.t] at hfl hk; omega
      have h5 : cs = [] := List.length_eq_zero_iff.1 (by simp only [Pl.k, Pl.cs] at hfl hk; omega)
      rw [h1, h2, h3, h4, h5]
      rfl
theorem fit_kid {db : List Ta} {p x : Pl} (h : fitB db p) (hx : x ∈ p.ks) : fitB db x := ⟨h.1, PV_kid h.2 hx⟩
theorem small_5 {db : List Ta} (h : smallDb db) : ∀ t, t ∈ db → t.rows.length ≤ 5 := fun t ht => (h t ht).1
/-! Joins by a condition. -/
theorem joi_flat (n : Nat) (e : E) (ra rb : List (List V)) : joiL false n e ra rb = (ra.flatMap (fun r => rb.map (fun b => r ++ b))).filter (holdsB e) := by
  rw [List.filter_flatMap]
  rfl
theorem joi_one (n : Nat) (ra rb : List (List V)) : joiL false n (cstE ⟨false, 1⟩) ra rb = ra.flatMap (fun r => rb.map (fun b => r ++ b)) := by
  rw [joi_flat]
  exact List.filter_eq_self.2 (fun r _ => by unfold holdsB cstE; rw [ev]; rfl)
theorem joi_by (n : Nat) (e : E) (ra rb : List (List V)) : joiL false n e ra rb = (joiL false n (cstE ⟨false, 1⟩) ra rb).filter (holdsB e) := by rw [joi_one, joi_flat]
theorem pair_len (ra rb : List (List V)) : (ra.flatMap (fun r => rb.map (fun b => r ++ b))).length = ra.length * rb.length := by
  induction ra with
  | nil => rw [List.flatMap_nil, List.length_nil, Nat.zero_mul]
  | cons r ra ih => rw [List.flatMap_cons, List.length_append, ih, List.length_map, List.length_cons, Nat.add_mul]; omega
theorem srt_filter {w : Nat} {l : List (List V)} (h : RsW w l) (q : List V → Bool) : srt ((srt l).filter q) = srt (l.filter q) :=
  srt_congr (rsw_sub List.filter_sublist h) ((srt_perm l).filter q)
theorem jo_fi {db : List Ta} {q r : Pl} {wa wb : Nat} (ha : TabW wa (evP db q)) (hb : TabW wb (evP db r)) (hl : (evP db q).rows.length * (evP db r).rows.length ≤ 400) (e : E) : evP db (fiP e (joP 4 (cstE ⟨false, 1⟩) q r)) = evP db (joP 4 e q r) := by
  have h4 : ((4 : Int) == 5) = false := rfl
  have hlen : (joiL false (evP db r).w.toNat (cstE ⟨false, 1⟩) (evP db q).rows (evP db r).rows).length ≤ 400 := by rw [joi_one, pair_len]; exact hl
  have hr := rsw_joi ha.row hb.row false (cstE ⟨false, 1⟩)
  have hwt : (evP db r).w.toNat = wb := by rw [hb.wid]; rfl
  have hlf := List.length_filter_le (holdsB e) (srt (joiL false wb (cstE ⟨false, 1⟩) (evP db q).rows (evP db r).rows))
  rw [srt_len, ← hwt] at hlf
  have hlf2 := List.length_filter_le (holdsB e) (joiL false wb (cstE ⟨false, 1⟩) (evP db q).rows (evP db r).rows)
  rw [← hwt] at hlf2
  rw [fi_ev, jo_ev (Or.inl rfl), jo_ev (Or.inl rfl), h4, tabT_s hlen, joi_by _ e]
  show tabT _ ((srt _).filter (holdsB e)) = _
  rw [tabT_s (by omega), tabT_s (by omega), hwt, srt_filter hr]
end Go.Proofs.YtibknjpbbeackaaGreat
set_option maxHeartbeats 4000000
set_option maxRecDepth 100000
set_option linter.unusedVariables false
set_option linter.unusedSimpArgs false
namespace Go.Proofs.YtibknjpbbeackaaGreat
open Go.RowKit
theorem filter_l (e : E) (x : Pl) : Does Tryz.prog 19 [] [eD e, pD x] (pD (fiP e x)) [] := by
  refine Bg c_Z169 mixed (go1 trivial ?_)
  have h : Sub (.agg [I 2, I 0, .sl 5 [eD e], .nul, .sl 5 [pD x]]) (pD (fiP e x)) := plS (Sub.refl _) (Sub.nul 1) (Sub.refl _)
  simp only [go_sem] at h
  exact h
theorem two_l (k : Int) (a b : E) : Does Tryz.prog 21 [] [I k, eD a, eD b] (eD (twoE k a b)) [] := by
  unfold twoE
  exact Bg c_Z180 mixed (go0 trivial)
theorem not_l (a : E) : Does Tryz.prog 22 [] [eD a] (eD (oneE 10 a)) [] := by
  unfold oneE
  exact Bg c_Z179 mixed (go0 trivial)
theorem leaf_s (k c : Int) (v : V) : SubL [I k, I c, Bo v.b, I v.n, .nul] (eC (.mk k c v [])) := ⟨Sub.refl _, Sub.refl _, Sub.refl _, Sub.refl _, Sub.nul 5, trivial⟩
theorem leaf_d (k c : Int) (v : V) : Sub (.agg [I k, I c, Bo v.b, I v.n, .nul]) (eD (.mk k c v [])) := by rw [eD_eC]; exact Sub.agg (leaf_s k c v)
theorem psk_one (k : Int) (es : List E) (cs : List Int) (p : Pl) : psz (.mk k 0 es cs [p]) = eszL es + cs.length + psz p + 1 := by
  rw [psz, pszL, pszL]
  omega
theorem psk_two (k : Int) (es : List E) (cs : List Int) (p q : Pl) : psz (.mk k 0 es cs [p, q]) = eszL es + cs.length + psz p + psz q + 2 := by
  rw [psz, pszL, pszL, pszL]
  omega
theorem wt_bound {db : List Ta} (h : smallDb db) {x : Pl} {n : Nat} (hw : Wt (dbWs db) x n) : (evP db x).rows.length ≤ rb x := rows_rb (small_5 h) hw
theorem fit_fields {db : List Ta} {x : Pl} (hf : fitB db x) : fields x := by
  have hw := PV_ok hf.2
  have h := hf.2
  rw [PV_t hw] at h
  exact wd_fields h
end Go.Proofs.YtibknjpbbeackaaGreat
