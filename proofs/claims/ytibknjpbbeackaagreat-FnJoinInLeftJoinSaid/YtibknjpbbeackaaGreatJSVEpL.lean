/-
  EvalPlan of both packages as a function. No condition.
-/
import Derived.Test.YtibknjpbbeackaaGreatKSDca
import Derived.Test.YtibknjpbbeackaaGreatJSDcg
import Derived.Test.YtibknjpbbeackaaGreatKSVPiO
import Derived.Test.YtibknjpbbeackaaGreatJSVPlanB
import Derived.Test.YtibknjpbbeackaaGreatKSVPiP
import Derived.Test.YtibknjpbbeackaaGreatJSVGo
import Derived.Test.YtibknjpbbeackaaGreatJSVTru
import Derived.Test.YtibknjpbbeackaaGreatJSVWidC
import Derived.Test.YtibknjpbbeackaaGreatJSVEvS
import Derived.Test.YtibknjpbbeackaaGreatJSDcj
set_option maxHeartbeats 4000000
set_option maxRecDepth 100000
set_option linter.unusedVariables false
set_option linter.unusedSimpArgs false
namespace Go.Proofs.YtibknjpbbeackaaGreat
open Go.RowKit
theorem wd_wt {ws : List Nat} : ∀ (p : Pl) (d : Nat), wdV (natI ws) p d ≠ 0 → ∃ n : Nat, wdV (natI ws) p d = (n : Int) ∧ Wt ws p n := by
  refine Pl.indA (fun p ih d h => ?_)
  have hf := wd_fields h
  by_cases hk : p.k = 1
  · obtain ⟨hr, h0, h1⟩ := wd_scan h hk
    have hks : p.ks = [] := List.length_eq_zero_iff.1 (by unfold fields at hf; omega)
    obtain ⟨j, hj⟩ := Int.eq_ofNat_of_zero_le h0
    have hjl : j < (natI ws).length := by omega
    have hx := List.getElem?_eq_getElem hjl
    obtain ⟨m, hm, hmx⟩ := natI_at hx
    refine ⟨m, ?_, .scan hk hj hm hks⟩
    rw [hr]
    unfold scanV
    rw [if_pos ⟨h0, h1⟩, hj, show ((j : Int)).toNat = j from rfl, List.getD_eq_getElem?_getD, hx, Option.getD_some, hmx]
  · obtain ⟨⟨hfi, hfit⟩, hr, hkid⟩ := wd_fit h hk
    obtain ⟨ms, hl, hp⟩ := list_of (P := fun (x : Pl) (n : Nat) => wdV (natI ws) x (d - 1) = (n : Int) ∧ Wt ws x n) p.ks (fun x hx => ih x hx (d - 1) (hkid x hx))
    have hms : p.ks.map (fun x => wdV (natI ws) x (d - 1)) = natI ms := by
      apply List.ext_getElem?
      intro i
      show (p.ks.map (fun x => wdV (natI ws) x (d - 1)))[i]? = (ms.map (fun n : Nat => (n : Int)))[i]?
      rw [List.getElem?_map, List.getElem?_map]
      cases hx : p.ks[i]? with
      | none =>
        have : ms[i]? = none := List.getElem?_eq_none (by have := List.getElem?_eq_none_iff.1 hx; omega)
        rw [this]
        rfl
      | some x =>
        obtain ⟨n, hn⟩ : ∃ n, ms[i]? = some n := ⟨_, List.getElem?_eq_getElem (by have := (List.getElem?_eq_some_iff.1 hx).1; omega)⟩
        rw [hn, Option.map_some, Option.map_some, (hp i x n hx hn).1]
    rw [hms] at hfit hr
    obtain ⟨m, hm, hw⟩ := wt_of hl hk (fun i x n hx hn => (hp i x n hx hn).2) hfi hfit
    exact ⟨m, by rw [hr, hm], hw⟩
def fitB (db : List Ta) (p : Pl) : Prop := dbOk db ∧ PV (natI (dbWs db)) p ≠ 0
noncomputable instance fitDec (db : List Ta) (p : Pl) : Decidable (fitB db p) := Classical.propDecidable _
noncomputable def EO (db : List Ta) (p : Pl) : Bool := decide (fitB db p)
noncomputable def EP (db : List Ta) (p : Pl) : Ta := if fitB db p then evP db p else ⟨0, []⟩
theorem EP_t {db : List Ta} {p : Pl} (h : fitB db p) : EP db p = evP db p := if_pos h
theorem EP_f {db : List Ta} {p : Pl} (h : ¬ fitB db p) : EP db p = ⟨0, []⟩ := if_neg h
theorem EO_t {db : List Ta} {p : Pl} (h : fitB db p) : EO db p = true := decide_eq_true h
theorem EO_f {db : List Ta} {p : Pl} (h : ¬ fitB db p) : EO db p = false := decide_eq_false h
theorem fit_wt {db : List Ta} {p : Pl} (h : fitB db p) : ∃ n : Nat, PV (natI (dbWs db)) p = (n : Int) ∧ Wt (dbWs db) p n ∧ DbW (dbWs db) db ∧ TabW n (evP db p) := by
  have hw := PV_ok h.2
  have h2 := h.2
  rw [PV_t hw] at h2 ⊢
  obtain ⟨n, hn, hwt⟩ := wd_wt p 8 h2
  have hd := dbW_of h.1 hw
  exact ⟨n, hn, hwt, hd, (evalPlan_ok hd hwt).1⟩
theorem EP_small (db : List Ta) (p : Pl) : smallT (EP db p) := by
  by_cases h : fitB db p
  · obtain ⟨n, _, hwt, hd, hT⟩ := fit_wt h
    rw [EP_t h]
    have hn := hwt.pos hd.wid
    exact ⟨by have := hT.few; omega, fun r hr => by have := (hT.row r hr).1; omega⟩
  · rw [EP_f h]
    exact ⟨by decide, fun r hr => by cases hr⟩
theorem EvalPlan_fn (p : Pl) (hs : psz p ≤ 1048576) (db : List Ta) (hl : db.length ≤ 1000) (hsz : ∀ t, t ∈ db → rsz t.rows ≤ 1048576) :
    Does Tryz.prog 16 [] [pD p, tasD db] (.tup [taD (EP db p), Bo (EO db p)]) [] ∧ Does Tryz.prog 17 [] [pD p, tasD db] (.tup [taD (EP db p), Bo (EO db p)]) [] := by
  have hwl : (natI (dbWs db)).length ≤ 1048576 := by unfold natI dbWs; rw [List.length_map, List.length_map]; omega
  obtain ⟨_, g1, g2⟩ := PlanWidth_fn p hs (natI (dbWs db)) hwl
  by_cases hf : fitB db p
  · obtain ⟨n, hn, hwt, hd, hT⟩ := fit_wt hf
    rw [EP_t hf, EO_t hf]
    rw [hn] at g1 g2
    have hn0 : n ≠ 0 := fun e => hf.2 (by rw [hn, e]; rfl)
    refine ⟨EvalPlan_impl_t hs hl hsz ⟨hf.1, PV_ok hf.2, hn0, hwt⟩ g2, ?_⟩
    have h1 := widthsOf_t hl hf.1
    have h4 := (evalPlan_ok hd hwt).2
    have hz2 : ((n : Int) == 0) = false := beq_eq_false_iff_ne.2 (by omega)
    refine Bg c_Z137 mixed (go1 trivial ?_)
    refine Uc trivial (h1) (go1 trivial ?_)
    refine Uc @hz2 (g1) (go1 @hz2 ?_)
    exact Uc trivial (h4) (go0 trivial)
  · rw [EP_f hf, EO_f hf]
    by_cases hok : dbOk db
    · have h0 : PV (natI (dbWs db)) p = 0 := Classical.byContradiction fun hne => hf ⟨hok, hne⟩
      rw [h0] at g1 g2
      refine ⟨EvalPlan_impl_f (tableWidths_t hl hok hsz) g2, ?_⟩
      have h1 := widthsOf_t hl hok
      refine Bg c_Z137 mixed (go1 trivial ?_)
      refine Uc trivial (h1) (go1 trivial ?_)
      refine Uc trivial (g1) (go1 trivial ?_)
      exact sub_zero
    · obtain ⟨_, k1, k2⟩ := PlanWidth_fn p hs (natI []) (by decide)
      have h0 : PV (natI []) p = 0 := if_neg (fun h => by have := h.1.1; simp [natI] at this)
      rw [h0] at k1 k2
      refine ⟨EvalPlan_impl_f (tableWidths_f hl hsz hok) k2, ?_⟩
      have h1 := widthsOf_f hl hsz hok
      refine Bg c_Z137 mixed (go1 trivial ?_)
      refine Uc trivial (h1) (go1 trivial ?_)
      refine Uc trivial (k1) (go1 trivial ?_)
      exact sub_zero
end Go.Proofs.YtibknjpbbeackaaGreat
set_option maxHeartbeats 4000000
set_option maxRecDepth 100000
set_option linter.unusedVariables false
set_option linter.unusedSimpArgs false
namespace Go.Proofs.YtibknjpbbeackaaGreat
open Go.RowKit
theorem fits_v {p : Pl} {ns : List Int} (h6 : ¬ p.k = 6) (h8 : ¬ p.k = 8) (h : ∀ (j : Nat) (e : E), p.es[j]? = some e → (1 ≤ ns.sum ∧ ns.sum ≤ 6) ∧ eOk e ns.sum 8) : fitsV p ns := by
  unfold fitsV
  rw [if_neg h6, if_neg h8]
  exact h
/-! Plans over two kids. -/
theorem zero_2 {a b : Int} (ha : a ≠ 0) (hb : b ≠ 0) : ¬ zeroIn [a, b] := by
  rintro ⟨j, hj⟩
  cases j with
  | zero => exact ha (by simpa using hj)
  | succ j =>
    cases j with
    | zero => exact hb (by simpa using hj)
    | succ j => simp at hj
theorem wd_2 {ws : List Int} {k : Int} {es : List E} {cs : List Int} {p q : Pl} {d : Nat} (hk : k ≠ 1) (hf : fields (.mk k 0 es cs [p, q])) : wdV ws (.mk k 0 es cs [p, q]) (d + 1) = resV (.mk k 0 es cs [p, q]) [wdV ws p d, wdV ws q d] := by
  rw [wd_eq, if_pos hf, if_neg (show ¬ (Pl.mk k 0 es cs [p, q]).k = 1 from hk), if_neg (Nat.succ_ne_zero d)]
  rfl
theorem wd_2t {ws : List Int} {k : Int} {es : List E} {cs : List Int} {p q : Pl} {d : Nat} (hk : k ≠ 1) (hf : fieldsI (.mk k 0 es cs [p, q])) (h0 : wdV ws p d ≠ 0) (h1 : wdV ws q d ≠ 0) (hv : fitsV (.mk k 0 es cs [p, q]) [wdV ws p d, wdV ws q d]) :
    wdV ws (.mk k 0 es cs [p, q]) (d + 1) = fromV (.mk k 0 es cs [p, q]) [wdV ws p d, wdV ws q d] := by
  rw [wd_2 hk hf.1, resV_t (zero_2 h0 h1) hf hv]
end Go.Proofs.YtibknjpbbeackaaGreat
set_option maxHeartbeats 4000000
set_option maxRecDepth 100000
set_option linter.unusedVariables false
set_option linter.unusedSimpArgs false
namespace Go.Proofs.YtibknjpbbeackaaGreat
open Go.RowKit
theorem tabT_len (w : Int) (l : List (List V)) : (tabT w l).rows.length ≤ l.length := by
  by_cases h : l.length ≤ 400
  · rw [tabT_s h]; exact Nat.le_of_eq (srt_len l)
  · rw [tabT_n h]; exact Nat.zero_le _
theorem dstL_len (rs : List (List V)) : (dstL rs rs.length).length ≤ rs.length := by
  have h := (dstL_sub rs rs.length (Nat.le_refl _)).length_le
  rw [List.take_length] at h
  exact h
theorem grpL_len (cs : List Int) (rs : List (List V)) : (grpL cs rs).length ≤ rs.length := by
  have h := groG_inv cs rs rs.length (Nat.le_refl _)
  rw [List.take_length] at h
  unfold grpL
  rw [List.length_zipWith]
  exact Nat.le_trans (Nat.min_le_left _ _) h.few
theorem rows_rb {ws : List Nat} {db : List Ta} (hs : ∀ t, t ∈ db → t.rows.length ≤ 5) {p : Pl} {n : Nat} (h : Wt ws p n) : (evP db p).rows.length ≤ rb p := by
  induction h with
  | @scan p j w hk ht hw hks =>
    rw [evP_0 hks, rb_0 hks]
    unfold opT
    rw [if_pos hk, ht, Int.toNat_natCast, List.getD_eq_getElem?_getD]
    cases hj : db[j]? with
    | none => exact Nat.zero_le _
    | some t => exact hs t (List.mem_of_getElem? hj)
  | @filter p q w e hk hks hes hq he ih =>
    rw [evP_1 hks, rb_1 hks]
    unfold opT
    rw [if_neg (by omega), if_pos hk]
    exact Nat.le_trans (tabT_len _ _) (Nat.le_trans (List.length_filter_le _ _) ih)
  | @project p q w hk hks hq hes hl ih =>
    rw [evP_1 hks, rb_1 hks]
    unfold opT
    rw [if_neg (by omega), if_neg (by omega), if_pos hk]
    exact Nat.le_trans (tabT_len _ _) (by rw [List.length_map]; exact ih)
  | @join p q r wa wb e hk hks hes hq hr he hw iq ir =>
    rw [evP_2 hks, rb_2 hks, if_neg (by omega)]
    unfold opT
    rw [if_neg (by omega), if_neg (by omega), if_neg (by omega), if_pos hk]
    exact Nat.le_trans (tabT_len _ _) (Nat.le_trans (joiL_len _ _ _ _ _) (Nat.mul_le_mul iq (Nat.succ_le_succ ir)))
  | @union p q r w hk hks hq hr iq ir =>
    rw [evP_2 hks, rb_2 hks, if_pos hk]
    unfold opT
    rw [if_neg (by omega), if_neg (by omega), if_neg (by omega), if_neg (by omega), if_pos hk]
    exact Nat.le_trans (tabT_len _ _) (by rw [List.length_append]; omega)
  | @distinct p q w hk hks hq ih =>
    rw [evP_1 hks, rb_1 hks]
    unfold opT
    rw [if_neg (by omega), if_neg (by omega), if_neg (by omega), if_neg (by omega), if_neg (by omega), if_pos hk]
    exact Nat.le_trans (dstL_len _) ih
  | @group p q w hk hks hq hc hl ih =>
    rw [evP_1 hks, rb_1 hks]
    unfold opT
    rw [if_neg (by omega), if_neg (by omega), if_neg (by omega), if_neg (by omega), if_neg (by omega), if_neg (by omega)]
    exact Nat.le_trans (tabT_len _ _) (Nat.le_trans (grpL_len _ _) ih)
end Go.Proofs.YtibknjpbbeackaaGreat
set_option maxHeartbeats 4000000
set_option maxRecDepth 100000
set_option linter.unusedVariables false
set_option linter.unusedSimpArgs false
namespace Go.Proofs.YtibknjpbbeackaaGreat
open Go.RowKit
def joP (k : Int) (e : E) (p q : Pl) : Pl := .mk k 0 [e] [] [p, q]
theorem jo_ev {db : List Ta} {k : Int} (hk : k = 4 ∨ k = 5) {e : E} {p q : Pl} : evP db (joP k e p q) = tabT ((evP db p).w + (evP db q).w) (joiL (k == 5) (evP db q).w.toNat e (evP db p).rows (evP db q).rows) := by
  rw [evP_2 (q := p) (r := q) rfl]
  unfold opT
  rw [if_neg (show ¬ (joP k e p q).k = 1 from fun h => by have h : k = 1 := h; omega), if_neg (show ¬ (joP k e p q).k = 2 from fun h => by have h : k = 2 := h; omega), if_neg (show ¬ (joP k e p q).k = 3 from fun h => by have h : k = 3 := h; omega), if_pos (show (joP k e p q).k = 4 ∨ (joP k e p q).k = 5 from hk)]
  rfl
theorem jo_fields {k : Int} (hk : k = 4 ∨ k = 5) (e : E) (p q : Pl) : fieldsI (joP k e p q) := by
  refine ⟨?_, fun h => by have h : k = 3 := h; omega⟩
  have h : ∀ q : Pl, q.k = k → q.t = 0 → q.es.length = 1 → q.cs.length = 0 → q.ks.length = 2 → fields q := fun q h1 h2 h3 h4 h5 => by unfold fields; omega
  exact h _ rfl rfl rfl rfl rfl
theorem jo_wd {ws : List Int} {k : Int} (hk : k = 4 ∨ k = 5) {e : E} {p q : Pl} {d : Nat} (h0 : wdV ws p d ≠ 0) (h1 : wdV ws q d ≠ 0) (hs : 1 ≤ wdV ws p d + wdV ws q d ∧ wdV ws p d + wdV ws q d ≤ 6) (he : eOk e (wdV ws p d + wdV ws q d) 8) : wdV ws (joP k e p q) (d + 1) = wdV ws p d + wdV ws q d := by
  have hsum : [wdV ws p d, wdV ws q d].sum = wdV ws p d + wdV ws q d := by simp
  refine (wd_2t (by omega) (jo_fields hk e p q) h0 h1 (fits_v (fun h => by have h : k = 6 := h; omega) (fun h => by have h : k = 8 := h; omega) (fun j x hj => ?_))).trans ?_
  · rw [hsum]
    have hx : x = e := by
      cases j with
      | zero => exact (by simpa [Pl.es] using hj.symm)
      | succ j => simp [Pl.es] at hj
    rw [hx]
    exact ⟨hs, he⟩
  · unfold fromV
    rw [if_neg (show ¬ (Pl.mk k 0 [e] [] [p, q]).k = 3 from fun h => by have h : k = 3 := h; omega), if_pos (show (Pl.mk k 0 [e] [] [p, q]).k = 4 ∨ (Pl.mk k 0 [e] [] [p, q]).k = 5 from hk)]
    exact hsum
theorem fit_join {db : List Ta} {x : Pl} (hf : fitB db x) (hk : x.k = 4 ∨ x.k = 5) : ∃ (e : E) (q r : Pl) (wa wb : Nat), x = joP x.k e q r ∧ (Wt (dbWs db) q wa ∧ Wt (dbWs db) r wb) ∧ TabW wa (evP db q) ∧ TabW wb (evP db r) ∧ (1 ≤ wa ∧ 1 ≤ wb ∧ wa + wb ≤ 6) ∧ TabW (wa + wb) (evP db x) := by
  obtain ⟨n, hn, hwt, hd, hT⟩ := fit_wt hf
  have hw := PV_ok hf.2
  have hfl := wd_fields (by have := hf.2; rw [PV_t hw] at this; exact this)
  unfold fields at hfl
  cases hwt with
  | scan h1 _ _ _ => omega
  | filter h1 _ _ _ _ => omega
  | project h1 _ _ _ _ => omega
  | union h1 _ _ _ => omega
  | distinct h1 _ _ => omega
  | group h1 _ _ _ _ => omega
  | @join _ q r wa wb e h1 hks hes hq hr he hwl =>
    have ha := hq.pos hd.wid
    have hb := hr.pos hd.wid
    refine ⟨e, q, r, wa, wb, ?_, ⟨hq, hr⟩, (evalPlan_ok hd hq).1, (evalPlan_ok hd hr).1, by omega, hT⟩
    cases x with
    | mk k t es cs ks =>
      have h2 : es = [e] := hes
      have h3 : ks = [q, r] := hks
      have h4 : t = 0 := by simp only [Pl.k, Pl.t] at hfl hk; omega
      have h5 : cs = [] := List.length_eq_zero_iff.1 (by simp only [Pl.k, Pl.cs] at hfl hk; omega)
      rw [h2, h3, h4, h5]
      rfl
theorem small_5 {db : List Ta} (h : smallDb db) : ∀ t, t ∈ db → t.rows.length ≤ 5 := fun t ht => (h t ht).1
/-! Left joins. -/
theorem mt_out (n : Nat) (e : E) (r : List V) (rb : List (List V)) : (outL false n e r rb).Sublist (outL true n e r rb) := by
  show (mtL e r rb).Sublist _
  unfold outL
  split
  · rename_i h
    rw [Bool.and_eq_true, Bool.not_eq_true'] at h
    rw [fnd_f h.2]
    exact List.nil_sublist _
  · exact List.Sublist.refl _
theorem joi_sub (n : Nat) (e : E) (rb : List (List V)) : ∀ ra : List (List V), (joiL false n e ra rb).Sublist (joiL true n e ra rb)
  | [] => List.Sublist.refl _
  | a :: ra => by
    have h1 : ∀ o, joiL o n e (a :: ra) rb = outL o n e a rb ++ joiL o n e ra rb := fun o => List.flatMap_cons
    rw [h1, h1]
    exact (mt_out n e a rb).append (joi_sub n e rb ra)
theorem cnt_sub {x : List V} {l m : List (List V)} (h : l.Sublist m) : cntE x l ≤ cntE x m := by
  induction h with
  | slnil => exact Nat.le_refl _
  | @cons l m a h ih =>
    by_cases ha : a = x
    · rw [ha, cntE_same]; omega
    · rw [cntE_ne ha]; exact ih
  | @cons_cons l m a h ih =>
    by_cases ha : a = x
    · rw [ha, cntE_same, cntE_same]; omega
    · rw [cntE_ne ha, cntE_ne ha]; exact ih
end Go.Proofs.YtibknjpbbeackaaGreat
set_option maxHeartbeats 4000000
set_option maxRecDepth 100000
set_option linter.unusedVariables false
set_option linter.unusedSimpArgs false
namespace Go.Proofs.YtibknjpbbeackaaGreat
open Go.RowKit
theorem psk_two (k : Int) (es : List E) (cs : List Int) (p q : Pl) : psz (.mk k 0 es cs [p, q]) = eszL es + cs.length + psz p + psz q + 2 := by
  rw [psz, pszL, pszL, pszL]
  omega
theorem wt_bound {db : List Ta} (h : smallDb db) {x : Pl} {n : Nat} (hw : Wt (dbWs db) x n) : (evP db x).rows.length ≤ rb x := rows_rb (small_5 h) hw
theorem fit_fields {db : List Ta} {x : Pl} (hf : fitB db x) : fields x := by
  have hw := PV_ok hf.2
  have h := hf.2
  rw [PV_t hw] at h
  exact wd_fields h
end Go.Proofs.YtibknjpbbeackaaGreat
