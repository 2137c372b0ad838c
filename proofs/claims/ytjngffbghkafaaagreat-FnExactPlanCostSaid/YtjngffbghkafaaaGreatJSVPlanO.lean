/-
  What the model makes of a plan. No condition.
-/
import Derived.Test.YtjngffbghkafaaaGreatKSDca
import Derived.Test.YtjngffbghkafaaaGreatKSDcf
import Derived.Test.YtjngffbghkafaaaGreatKSVPeD
import Derived.Test.YtjngffbghkafaaaGreatJSDcVWidD
import Derived.Test.YtjngffbghkafaaaGreatJSVPlan
import Derived.Test.YtjngffbghkafaaaGreatJSVPl
import Derived.Test.YtjngffbghkafaaaGreatJSVWidB
import Derived.Test.YtjngffbghkafaaaGreatJSVGo
import Derived.Test.YtjngffbghkafaaaGreatJSDcVWidA
import Derived.Test.YtjngffbghkafaaaGreatRows
set_option maxHeartbeats 4000000
set_option maxRecDepth 100000
set_option linter.unusedVariables false
set_option linter.unusedSimpArgs false
namespace Go.Proofs.YtjngffbghkafaaaGreat
open Go.RowKit
def opT (db : List Ta) (k t : Int) (es : List E) (cs : List Int) (a b : Ta) : Ta:=
 if k = 1 then db.getD t.toNat ⟨0,[]⟩ else
 if k = 2 then tabT a.w (a.rows.filter (holdsB (es.headD (.mk 2 0 ⟨false,0⟩ [])))) else
 if k = 3 then tabT es.length (a.rows.map (prjR es)) else
 if k = 4 ∨ k = 5 then tabT (a.w + b.w) (joiL (k == 5) b.w.toNat (es.headD (.mk 2 0 ⟨false,0⟩ [])) a.rows b.rows) else
 if k = 6 then tabT a.w (a.rows ++ b.rows) else
 if k = 7 then ⟨a.w,dstL a.rows a.rows.length⟩ else
 tabT ((cs.length : Int) + 1) (grpL cs a.rows)
mutual
def evP (db : List Ta) : Pl → Ta
 | .mk k t es cs ks=>opT db k t es cs ((evPL db ks).getD 0 ⟨0,[]⟩) ((evPL db ks).getD 1 ⟨0,[]⟩)
def evPL (db : List Ta) : List Pl → List Ta
 | []=>[]
 | p :: l=>evP db p :: evPL db l
end
theorem evP_0 {db : List Ta} {p : Pl} (h : p.ks = []) : evP db p = opT db p.k p.t p.es p.cs ⟨0,[]⟩ ⟨0,[]⟩:=by
 cases p with
 | mk k t es cs ks=>cases h; rfl
theorem evP_1 {db : List Ta} {p q : Pl} (h : p.ks = [q]) : evP db p = opT db p.k p.t p.es p.cs (evP db q) ⟨0,[]⟩:=by
 cases p with
 | mk k t es cs ks=>cases h; rfl
theorem evP_2 {db : List Ta} {p q r : Pl} (h : p.ks = [q,r]) : evP db p = opT db p.k p.t p.es p.cs (evP db q) (evP db r):=by
 cases p with
 | mk k t es cs ks=>cases h; rfl
inductive Wt (ws : List Nat) : Pl → Nat → Prop
 | scan {p : Pl} {j w : Nat} (hk : p.k = 1) (ht : p.t = (j : Int)) (hw : ws[j]? = some w) (hks : p.ks = []) : Wt ws p w
 | filter {p q : Pl} {w : Nat} {e : E} (hk : p.k = 2) (hks : p.ks = [q]) (hes : p.es = [e]) (hq : Wt ws q w) (he : eOk e w 8) : Wt ws p w
 | project {p q : Pl} {w : Nat} (hk : p.k = 3) (hks : p.ks = [q]) (hq : Wt ws q w) (hes : ∀ e,e ∈ p.es → eOk e w 8) (hl : 1 ≤ p.es.length ∧ p.es.length ≤ 6) : Wt ws p p.es.length
 | join {p q r : Pl} {wa wb : Nat} {e : E} (hk : p.k = 4 ∨ p.k = 5) (hks : p.ks = [q,r]) (hes : p.es = [e]) (hq : Wt ws q wa) (hr : Wt ws r wb) (he : eOk e ((wa : Int) + (wb : Int)) 8) (hw : wa + wb ≤ 6) : Wt ws p (wa + wb)
 | union {p q r : Pl} {w : Nat} (hk : p.k = 6) (hks : p.ks = [q,r]) (hq : Wt ws q w) (hr : Wt ws r w) : Wt ws p w
 | distinct {p q : Pl} {w : Nat} (hk : p.k = 7) (hks : p.ks = [q]) (hq : Wt ws q w) : Wt ws p w
 | group {p q : Pl} {w : Nat} (hk : p.k = 8) (hks : p.ks = [q]) (hq : Wt ws q w) (hc : ∀ c,c ∈ p.cs → 0 ≤ c ∧ c < w) (hl : p.cs.length < 6) : Wt ws p (p.cs.length + 1)
structure TabW (w : Nat) (t : Ta) : Prop where
 wid : t.w = (w : Int)
 row : RsW w t.rows
 few : t.rows.length ≤ 400
 asc : Asc t.rows
theorem tabT_w {w : Nat} {rs : List (List V)} (h : RsW w rs) : TabW w (tabT w rs):=by
 by_cases hl : rs.length ≤ 400
 ·rw [tabT_s hl]
  exact ⟨rfl,srt_rsw h,by show (srt rs).length ≤ 400; rw [srt_len]; exact hl,srt_asc h⟩
 ·rw [tabT_n hl]
  exact ⟨rfl,(fun r hr=>by cases hr),Nat.zero_le _,List.Pairwise.nil⟩
theorem TabW.eta {w : Nat} {t : Ta} (h : TabW w t) : t = ⟨(w : Int),t.rows⟩:=by
 rw [← h.wid]
theorem rsw_prj {w : Nat} {rs : List (List V)} (hs : RsW w rs) {es : List E} (hes : ∀ e,e ∈ es → eOk e w 8) : RsW es.length (rs.map (prjR es)):=fun r hr=>by
 obtain ⟨x,hx,rfl⟩:=List.mem_map.1 hr
 exact ⟨List.length_map _,fun v hv=>by
  obtain ⟨e,hm,rfl⟩:=List.mem_map.1 hv
  exact ev_ok (hs x hx).2 e 8 (by rw [(hs x hx).1]; exact hes e hm)⟩
structure DbW (ws : List Nat) (db : List Ta) : Prop where
 len : db.length = ws.length
 tab : ∀ (j : Nat) (t : Ta) (w : Nat),db[j]? = some t → ws[j]? = some w → TabW w t
 few : ws.length ≤ 4
 wid : ∀ w,w ∈ ws → 1 ≤ w ∧ w ≤ 6
theorem Wt.pos {ws : List Nat} (hw : ∀ w,w ∈ ws → 1 ≤ w ∧ w ≤ 6) {p : Pl} {w : Nat} (h : Wt ws p w) : 1 ≤ w ∧ w ≤ 6:=by
 induction h with
 | scan _ _ h _=>exact hw _ (List.mem_of_getElem? h)
 | filter _ _ _ _ _ ih=>exact ih
 | project _ _ _ _ hl=>exact hl
 | join _ _ _ _ _ _ hl ih1 ih2=>omega
 | union _ _ _ _ ih _=>exact ih
 | distinct _ _ _ ih=>exact ih
 | group _ _ _ _ hl=>omega
theorem evalPlan_ok {ws : List Nat} {db : List Ta} (hd : DbW ws db) {p : Pl} {w : Nat} (h : Wt ws p w) : TabW w (evP db p) ∧ Does Tryz.prog 59 [] [pD p,tasD db] (taD (evP db p)) []:=by
 induction h with
 | @scan p j w hk ht hj hks=>
  obtain ⟨t,hdj⟩ : ∃ t,db[j]? = some t:=⟨_,List.getElem?_eq_getElem (by have:=(List.getElem?_eq_some_iff.1 hj).1; have:=hd.len; omega)⟩
  have hT:=hd.tab j t w hdj hj
  have hwl:=hd.wid w (List.mem_of_getElem? hj)
  have hjl:=(List.getElem?_eq_some_iff.1 hdj).1
  have hev : evP db p = t:=by
   rw [evP_0 hks,opT,if_pos hk,ht,List.getD_eq_getElem?_getD,show ((j : Int)).toNat = j from rfl,hdj]
   rfl
  have h1:=tableOf_tab t.w w (by omega) t.rows (by have:=hT.few; omega) hT.row
  rw [tabT_s hT.few,srt_of_asc hT.row hT.asc] at h1
  rw [hev]
  refine ⟨hT,?_⟩
  refine Bg c_Z126 mixed (go1 (cj4 @hk @ht @hks @hdj) ?_)
  exact Uc @hdj (h1) (go0 @hdj)
 | @filter p q w e hk hks hes hq he ih=>
  obtain ⟨hT,hq2⟩:=ih
  have hwl:=hq.pos hd.wid
  rw [evP_1 hks,opT,if_neg (by omega),if_pos hk,hes]
  have hE:=hT.eta
  have h1:=filterTable_ok (w:=w) (by omega) (evP db q).rows (by have:=hT.few; omega) hT.row e 8 he
  rw [← hE] at h1
  rw [hT.wid]
  refine ⟨tabT_w (rsw_sub List.filter_sublist hT.row),?_⟩
  generalize evP db q = t at *
  have hr : List.headD [e] (E.mk 2 0 ⟨false,0⟩ []) = e:=rfl
  rw [hr]
  refine Bg c_Z126 mixed (go1 (cj3 @hk @hks @hes) ?_)
  refine Uc (cj3 @hk @hks @hes) (hq2) (go1 (cj3 @hk @hks @hes) ?_)
  exact Uc trivial (h1) (go0 trivial)
 | @project p q w hk hks hq hes hl ih=>
  obtain ⟨hT,hq2⟩:=ih
  have hwl:=hq.pos hd.wid
  rw [evP_1 hks,opT,if_neg (by omega),if_neg (by omega),if_pos hk]
  have hE:=hT.eta
  have h1:=projectTable_ok (w:=w) (by omega) (evP db q).rows (by have:=hT.few; omega) hT.row p.es 8 (by omega) hes
  rw [← hE] at h1
  refine ⟨tabT_w (rsw_prj hT.row hes),?_⟩
  generalize evP db q = t at *
  refine Bg c_Z126 mixed (go1 (cj2 @hk @hks) ?_)
  refine Uc (cj2 @hk @hks) (hq2) (go1 (cj2 @hk @hks) ?_)
  exact Uc trivial (h1) (go0 trivial)
 | @join p q r wa wb e hk hks hes hq hr he hw ih1 ih2=>
  obtain ⟨hTa,hq2⟩:=ih1
  obtain ⟨hTb,hr2⟩:=ih2
  rw [evP_2 hks,opT,if_neg (by omega),if_neg (by omega),if_neg (by omega),if_pos hk,hes]
  have hEa:=hTa.eta
  have hEb:=hTb.eta
  have h1:=joinTables_ok (wa:=wa) (wb:=wb) (by omega) (evP db q).rows (evP db r).rows (by have:=hTa.few; omega) (by have:=hTb.few; omega) hTa.row hTb.row e 8 he (p.k == 5)
  rw [← hEa,← hEb] at h1
  rw [hTa.wid,hTb.wid]
  have hwt:=tabT_w (rsw_joi hTa.row hTb.row (p.k == 5) e)
  rw [show ((wa + wb : Nat) : Int) = (wa : Int) + (wb : Int) by omega] at hwt
  refine ⟨hwt,?_⟩
  generalize evP db q = ta at *
  generalize evP db r = tb at *
  have hr : List.headD [e] (E.mk 2 0 ⟨false,0⟩ []) = e:=rfl
  rw [hr,show ((wb : Int)).toNat = wb from rfl]
  rcases hk with hk | hk
  ·rw [hk] at h1 ⊢
   refine Bg c_Z126 mixed (go1 (cj3 @hk @hks @hes) ?_)
   refine Uc (cj3 @hk @hks @hes) (hq2) (go1 (cj3 @hk @hks @hes) ?_)
   refine Uc (cj3 @hk @hks @hes) (hr2) (go1 (cj3 @hk @hks @hes) ?_)
   exact Uc trivial (h1) (go0 trivial)
  ·rw [hk] at h1 ⊢
   refine Bg c_Z126 mixed (go1 (cj3 @hk @hks @hes) ?_)
   refine Uc (cj3 @hk @hks @hes) (hq2) (go1 (cj3 @hk @hks @hes) ?_)
   refine Uc (cj3 @hk @hks @hes) (hr2) (go1 (cj3 @hk @hks @hes) ?_)
   exact Uc trivial (h1) (go0 trivial)
 | @union p q r w hk hks hq hr ih1 ih2=>
  obtain ⟨hTa,hq2⟩:=ih1
  obtain ⟨hTb,hr2⟩:=ih2
  have hwl:=hq.pos hd.wid
  rw [evP_2 hks,opT,if_neg (by omega),if_neg (by omega),if_neg (by omega),if_neg (by omega),if_pos hk]
  have hEa:=hTa.eta
  have hEb:=hTb.eta
  have h1:=union_ok (w:=w) (by omega) (evP db q).rows (evP db r).rows hTa.few hTb.few hTa.row hTb.row w
  rw [← hEa,← hEb] at h1
  rw [hTa.wid]
  refine ⟨tabT_w (fun x hx=>(List.mem_append.1 hx).elim (hTa.row x) (hTb.row x)),?_⟩
  generalize evP db q = ta at *
  generalize evP db r = tb at *
  refine Bg c_Z126 mixed (go1 (cj2 @hk @hks) ?_)
  refine Uc (cj2 @hk @hks) (hq2) (go1 (cj2 @hk @hks) ?_)
  refine Uc (cj2 @hk @hks) (hr2) (go1 (cj2 @hk @hks) ?_)
  exact Uc trivial (h1) (go0 trivial)
 | @distinct p q w hk hks hq ih=>
  obtain ⟨hT,hq2⟩:=ih
  have hwl:=hq.pos hd.wid
  rw [evP_1 hks,opT,if_neg (by omega),if_neg (by omega),if_neg (by omega),if_neg (by omega),if_neg (by omega),if_pos hk]
  have hE:=hT.eta
  have h1:=distinctRows_ok (w:=w) (by omega) (evP db q).rows hT.few hT.row
  rw [← hE] at h1
  rw [hT.wid]
  have hsub:=dstL_sub (evP db q).rows (evP db q).rows.length (Nat.le_refl _)
  rw [List.take_length] at hsub
  refine ⟨⟨rfl,rsw_sub hsub hT.row,Nat.le_trans hsub.length_le hT.few,asc_sub hsub hT.asc⟩,?_⟩
  generalize evP db q = t at *
  refine Bg c_Z126 mixed (go1 (cj2 @hk @hks) ?_)
  refine Uc (cj2 @hk @hks) (hq2) (go1 (cj2 @hk @hks) ?_)
  exact Uc trivial (h1) (go0 trivial)
 | @group p q w hk hks hq hc hl ih=>
  obtain ⟨hT,hq2⟩:=ih
  have hwl:=hq.pos hd.wid
  rw [evP_1 hks,opT,if_neg (by omega),if_neg (by omega),if_neg (by omega),if_neg (by omega),if_neg (by omega),if_neg (by omega)]
  have hE:=hT.eta
  have h1:=groupTable_ok (w:=w) (by omega) (evP db q).rows hT.few hT.row p.cs (by omega) hc
  rw [← hE] at h1
  have hwt:=tabT_w (grp_rsw hT.row hT.few hc)
  rw [show ((p.cs.length + 1 : Nat) : Int) = (p.cs.length : Int) + 1 by omega] at hwt
  refine ⟨hwt,?_⟩
  generalize evP db q = t at *
  refine Bg c_Z126 mixed (go1 (cj2 @hk @hks) ?_)
  refine Uc (cj2 @hk @hks) (hq2) (go1 (cj2 @hk @hks) ?_)
  exact Uc trivial (h1) (go0 trivial)
end Go.Proofs.YtjngffbghkafaaaGreat
set_option maxHeartbeats 4000000
set_option maxRecDepth 100000
set_option linter.unusedVariables false
set_option linter.unusedSimpArgs false
namespace Go.Proofs.YtjngffbghkafaaaGreat
open Go.RowKit
mutual
noncomputable def wdV (ws : List Int) : Pl → Nat → Int
 | .mk k t es cs ks,d=>if fields (.mk k t es cs ks) then (if k = 1 then scanV ws t else if d = 0 then 0 else resV (.mk k t es cs ks) (wdL ws ks (d - 1))) else 0
noncomputable def wdL (ws : List Int) : List Pl → Nat → List Int
 | [],_=>[]
 | x :: l,d=>wdV ws x d :: wdL ws l d
end
theorem wdL_map (ws : List Int) (d : Nat) : ∀ l : List Pl,wdL ws l d = l.map (fun x=>wdV ws x d)
 | []=>by rw [wdL]; rfl
 | x :: l=>by rw [wdL,wdL_map ws d l]; rfl
theorem wd_eq (ws : List Int) (p : Pl) (d : Nat) : wdV ws p d = if fields p then (if p.k = 1 then scanV ws p.t else if d = 0 then 0 else resV p (p.ks.map (fun x=>wdV ws x (d - 1)))) else 0:=by
 cases p with
 | mk k t es cs ks=>rw [wdV,wdL_map]; rfl
theorem wd_at {ws : List Int} {l : List Pl} {d i : Nat} {x : Pl} {n : Int} (hx : l[i]? = some x) (hn : (l.map (fun x=>wdV ws x d))[i]? = some n) : n = wdV ws x d:=by
 rw [List.getElem?_map,hx] at hn
 simpa using hn.symm
theorem width_fn {ws : List Int} (hw : wsOk ws) : ∀ (p : Pl),psz p ≤ 1048576 → ∀ d : Nat,d < 1000 → (0 ≤ wdV ws p d ∧ wdV ws p d ≤ 6) ∧ Does Tryz.prog 77 [] [pD p,intsD ws,I d] (I (wdV ws p d)) [] ∧ Does Tryz.prog 82 [] [pD p,intsD ws,I d] (I (wdV ws p d)) []:=by
 refine Pl.indA (fun p ih hs d hd=>?_)
 rw [psz_eq] at hs
 have hce:=eszL_len p.es
 rw [wd_eq]
 by_cases hf : fields p
 ·rw [if_pos hf]
  by_cases hk : p.k = 1
  ·rw [if_pos hk]
   exact ⟨scan_range hw p.t,planWidth_scan p ws hw d hf hk,widthWithin_scan p ws hw d hf hk⟩
  ·rw [if_neg hk]
   have hks : 1 ≤ p.ks.length:=by unfold fields at hf; omega
   by_cases hd0 : d = 0
   ·subst hd0
    rw [if_pos rfl]
    refine ⟨by decide,planWidth_0 p ws hf (by omega),?_⟩
    by_cases hfi : fieldsI p
    ·have h:=widthWithin_main p ws 0 (by decide) hfi hk (by omega) (by omega) (List.replicate p.ks.length 0) (by rw [List.length_replicate]) (fun j x hj=>by have:=List.eq_of_mem_replicate (List.mem_of_getElem? hj); omega) (fun i x n hx hn=>by
      obtain rfl : n = 0:=List.eq_of_mem_replicate (List.mem_of_getElem? hn)
      exact widthWithin_neg x ws)
     rw [resV_z ⟨0,by rw [List.getElem?_replicate,if_pos (by omega)]⟩] at h
     exact h
    ·exact widthWithin_no p ws 0 hfi
   ·rw [if_neg hd0]
    have hc1 : ((d - 1 : Nat) : Int) = (d : Int) - 1:=by omega
    have hp : ∀ (x : Pl),x ∈ p.ks → (0 ≤ wdV ws x (d - 1) ∧ wdV ws x (d - 1) ≤ 6) ∧ Does Tryz.prog 77 [] [pD x,intsD ws,I ((d : Int) - 1)] (I (wdV ws x (d - 1))) [] ∧ Does Tryz.prog 82 [] [pD x,intsD ws,I ((d : Int) - 1)] (I (wdV ws x (d - 1))) []:=fun x hx=>by
     have:=ih x hx (by have:=pszL_mem hx; omega) (d - 1) (by omega)
     rw [hc1] at this
     exact this
    have hl : (p.ks.map (fun x=>wdV ws x (d - 1))).length = p.ks.length:=List.length_map ..
    have hn : ∀ (j : Nat) (x : Int),(p.ks.map (fun x=>wdV ws x (d - 1)))[j]? = some x → 0 ≤ x ∧ x ≤ 6:=fun j x hj=>by
     obtain ⟨y,hy,rfl⟩:=List.mem_map.1 (List.mem_of_getElem? hj)
     exact (hp y hy).1
    refine ⟨resV_range p _ hn,planWidth_main p ws d hd (by omega) hf hk (by omega) (by omega) _ hl hn (fun i x n hx hn=>?_),?_⟩
    ·obtain rfl:=wd_at hx hn
     exact (hp x (List.mem_of_getElem? hx)).2.1
    ·by_cases hfi : fieldsI p
     ·exact widthWithin_main p ws d hd hfi hk (by omega) (by omega) _ hl hn (fun i x n hx hn=>by
       obtain rfl:=wd_at hx hn
       exact (hp x (List.mem_of_getElem? hx)).2.2)
     ·rw [resV_f (fun h=>hfi h.1)]
      exact widthWithin_no p ws d hfi
 ·rw [if_neg hf]
  exact ⟨by decide,planWidth_no p ws d hf,widthWithin_no p ws d (fun h=>hf h.1)⟩
noncomputable def PV (ws : List Int) (p : Pl) : Int:=if wsOk ws then wdV ws p 8 else 0
theorem PV_t {ws : List Int} (h : wsOk ws) (p : Pl) : PV ws p = wdV ws p 8:=if_pos h
theorem PV_ok {ws : List Int} {p : Pl} (h : PV ws p ≠ 0) : wsOk ws:=Classical.byContradiction fun hn=>h (if_neg hn)
theorem PlanWidth_fn (p : Pl) (hs : psz p ≤ 1048576) (ws : List Int) (hl : ws.length ≤ 1048576) : (0 ≤ PV ws p ∧ PV ws p ≤ 6) ∧ Does Tryz.prog 37 [] [pD p,intsD ws] (I (PV ws p)) [] ∧ Does Tryz.prog 44 [] [pD p,intsD ws] (I (PV ws p)) []:=by
 have h1:=validWidths_spec ws hl
 have h2:=validWidths_impl ws hl
 by_cases hw : wsOk ws
 ·rw [decide_eq_true hw] at h1 h2
  rw [PV_t hw]
  obtain ⟨hn,hA,hB⟩:=width_fn hw p hs 8 (by decide)
  refine ⟨hn,?_,?_⟩
  ·refine Bg c_Z152 mixed (go1 trivial ?_)
   refine Uc trivial (h1) (go1 trivial ?_)
   exact Uc trivial (hA) (go0 trivial)
  ·refine Bg c_Z95 mixed (go1 trivial ?_)
   refine Uc trivial (h2) (go1 trivial ?_)
   exact Uc trivial (hB) (go0 trivial)
 ·rw [decide_eq_false hw] at h1 h2
  rw [show PV ws p = 0 from if_neg hw]
  refine ⟨by decide,?_,?_⟩
  ·refine Bg c_Z152 mixed (go1 trivial ?_)
   exact Uc trivial (h1) (go0 trivial)
  ·refine Bg c_Z95 mixed (go1 trivial ?_)
   exact Uc trivial (h2) (go0 trivial)
/-! What follows from a width. -/
theorem wd_fields {ws : List Int} {p : Pl} {d : Nat} (h : wdV ws p d ≠ 0) : fields p:=Classical.byContradiction fun hf=>h (by rw [wd_eq,if_neg hf])
theorem wd_scan {ws : List Int} {p : Pl} {d : Nat} (h : wdV ws p d ≠ 0) (hk : p.k = 1) : wdV ws p d = scanV ws p.t ∧ 0 ≤ p.t ∧ p.t ≤ (ws.length : Int) - 1:=by
 have hf:=wd_fields h
 rw [wd_eq,if_pos hf,if_pos hk] at h ⊢
 exact ⟨rfl,Decidable.byContradiction fun hn=>h (if_neg hn)⟩
theorem wd_res {ws : List Int} {p : Pl} {d : Nat} (h : wdV ws p d ≠ 0) (hk : ¬ p.k = 1) : d ≠ 0 ∧ wdV ws p d = resV p (p.ks.map (fun x=>wdV ws x (d - 1))):=by
 have hf:=wd_fields h
 rw [wd_eq,if_pos hf,if_neg hk] at h ⊢
 by_cases hd : d = 0
 ·rw [if_pos hd] at h
  exact absurd rfl h
 ·rw [if_neg hd]
  exact ⟨hd,rfl⟩
theorem wd_fit {ws : List Int} {p : Pl} {d : Nat} (h : wdV ws p d ≠ 0) (hk : ¬ p.k = 1) : (fieldsI p ∧ fitsV p (p.ks.map (fun x=>wdV ws x (d - 1)))) ∧ wdV ws p d = fromV p (p.ks.map (fun x=>wdV ws x (d - 1))) ∧ ∀ x,x ∈ p.ks → wdV ws x (d - 1) ≠ 0:=by
 obtain ⟨hd,hr⟩:=wd_res h hk
 rw [hr] at h
 have hz : ¬ zeroIn (p.ks.map (fun x=>wdV ws x (d - 1))):=fun hz=>h (resV_z hz)
 have hv : fieldsI p ∧ fitsV p (p.ks.map (fun x=>wdV ws x (d - 1))):=Classical.byContradiction fun hv=>h (resV_f hv)
 refine ⟨hv,by rw [hr,resV_t hz hv.1 hv.2],fun x hx h0=>hz ?_⟩
 obtain ⟨j,hj⟩:=List.mem_iff_getElem?.1 hx
 exact ⟨j,by rw [List.getElem?_map,hj,Option.map_some,h0]⟩
end Go.Proofs.YtjngffbghkafaaaGreat
set_option maxHeartbeats 4000000
set_option maxRecDepth 100000
set_option linter.unusedVariables false
set_option linter.unusedSimpArgs false
namespace Go.Proofs.YtjngffbghkafaaaGreat
open Go.RowKit
def rootD (a b : Nat) (x : Pl) : D:=.agg [I x.k,I x.t,.own a 5 x.es.length,.own b 1 x.cs.length,.sl 5 (x.ks.map pD)]
def esR (x : Pl) : D:=.row 5 (x.es.map eD)
def csR (x : Pl) : D:=.row 1 (x.cs.map I)
attribute [go_sem] rootD esR csR
abbrev OPlan (bs : List Nat) (ws : List Int) (p j u : Nat) (d : Int) (x : Pl) (q j' u' : Nat) : Prop:=
 Does Tryz.prog 174 [gnD ws j u,rdD bs p,wrD ws] [.ref 1000000 0,I d] (rootD 1000003 1000004 x) [gnD ws j' u',rdD bs q,wrD ws,esR x,csR x]
variable {bs : List Nat} {ws : List Int} {p j u d : Nat} {x : Pl} {t k6 c n : Int} {q j1 u1 : Nat}
end Go.Proofs.YtjngffbghkafaaaGreat
