/-
  What the model makes of a plan. No condition.
-/
import Derived.Test.YtefldihjbaodnaaGreatKSDca
import Derived.Test.YtefldihjbaodnaaGreatKSDcf
import Derived.Test.YtefldihjbaodnaaGreatKSVPeD
import Derived.Test.YtefldihjbaodnaaGreatJSVDf
import Derived.Test.YtefldihjbaodnaaGreatJSVEvS
import Derived.Test.YtefldihjbaodnaaGreatJSVOutA
import Derived.Test.YtefldihjbaodnaaGreatJSVGo
import Derived.Test.YtefldihjbaodnaaGreatKSDch
set_option maxHeartbeats 4000000
set_option maxRecDepth 100000
set_option linter.unusedVariables false
set_option linter.unusedSimpArgs false
namespace Go.Proofs.YtefldihjbaodnaaGreat
open Go.RowKit
def tasD (db : List Ta) : D:=.sl 2 (db.map taD)
theorem tas_pur : ∀ l : List Ta,D.purL (l.map taD) = true
 | []=>rfl
 | t :: l=>by
  rw [List.map_cons,D.purL,tas_pur l,taD]
  rfl
theorem tas_ren (L : List Nat) (l : List Ta) : D.renL L (l.map taD) = l.map taD:=ren_pure.renL_pure L _ (tas_pur l)
attribute [go_sem] tas_pur tas_ren tasD
def opT (db : List Ta) (k t : Int) (es : List E) (cs : List Int) (a b : Ta) : Ta:=
 if k = 1 then db.getD t.toNat ⟨0,[]⟩ else
 if k = 2 then tabT a.w (a.rows.filter (holdsB (es.headD (.mk 2 0 ⟨false,0⟩ [])))) else
 if k = 3 then tabT es.length (a.rows.map (prjR es)) else
 if k = 4 ∨ k = 5 then tabT (a.w + b.w) (joiL (k == 5) b.w.toNat (es.headD (.mk 2 0 ⟨false,0⟩ [])) a.rows b.rows) else
 if k = 6 then tabT a.w (a.rows ++ b.rows) else
 if k = 7 then ⟨a.w,dstL a.rows a.rows.length⟩ else
 tabT ((cs.length : Int) + 1) (grpL cs a.rows)
mutual
def evP (db : List Ta) : Pl → Ta
 | .mk k t es cs ks=>opT db k t es cs ((evPL db ks).getD 0 ⟨0,[]⟩) ((evPL db ks).getD 1 ⟨0,[]⟩)
def evPL (db : List Ta) : List Pl → List Ta
 | []=>[]
 | p :: l=>evP db p :: evPL db l
end
theorem evP_0 {db : List Ta} {p : Pl} (h : p.ks = []) : evP db p = opT db p.k p.t p.es p.cs ⟨0,[]⟩ ⟨0,[]⟩:=by
 cases p with
 | mk k t es cs ks=>cases h; rfl
theorem evP_1 {db : List Ta} {p q : Pl} (h : p.ks = [q]) : evP db p = opT db p.k p.t p.es p.cs (evP db q) ⟨0,[]⟩:=by
 cases p with
 | mk k t es cs ks=>cases h; rfl
theorem evP_2 {db : List Ta} {p q r : Pl} (h : p.ks = [q,r]) : evP db p = opT db p.k p.t p.es p.cs (evP db q) (evP db r):=by
 cases p with
 | mk k t es cs ks=>cases h; rfl
inductive Wt (ws : List Nat) : Pl → Nat → Prop
 | scan {p : Pl} {j w : Nat} (hk : p.k = 1) (ht : p.t = (j : Int)) (hw : ws[j]? = some w) (hks : p.ks = []) : Wt ws p w
 | filter {p q : Pl} {w : Nat} {e : E} (hk : p.k = 2) (hks : p.ks = [q]) (hes : p.es = [e]) (hq : Wt ws q w) (he : eOk e w 8) : Wt ws p w
 | project {p q : Pl} {w : Nat} (hk : p.k = 3) (hks : p.ks = [q]) (hq : Wt ws q w) (hes : ∀ e,e ∈ p.es → eOk e w 8) (hl : 1 ≤ p.es.length ∧ p.es.length ≤ 6) : Wt ws p p.es.length
 | join {p q r : Pl} {wa wb : Nat} {e : E} (hk : p.k = 4 ∨ p.k = 5) (hks : p.ks = [q,r]) (hes : p.es = [e]) (hq : Wt ws q wa) (hr : Wt ws r wb) (he : eOk e ((wa : Int) + (wb : Int)) 8) (hw : wa + wb ≤ 6) : Wt ws p (wa + wb)
 | union {p q r : Pl} {w : Nat} (hk : p.k = 6) (hks : p.ks = [q,r]) (hq : Wt ws q w) (hr : Wt ws r w) : Wt ws p w
 | distinct {p q : Pl} {w : Nat} (hk : p.k = 7) (hks : p.ks = [q]) (hq : Wt ws q w) : Wt ws p w
 | group {p q : Pl} {w : Nat} (hk : p.k = 8) (hks : p.ks = [q]) (hq : Wt ws q w) (hc : ∀ c,c ∈ p.cs → 0 ≤ c ∧ c < w) (hl : p.cs.length < 6) : Wt ws p (p.cs.length + 1)
structure TabW (w : Nat) (t : Ta) : Prop where
 wid : t.w = (w : Int)
 row : RsW w t.rows
 few : t.rows.length ≤ 400
 asc : Asc t.rows
theorem tabT_w {w : Nat} {rs : List (List V)} (h : RsW w rs) : TabW w (tabT w rs):=by
 by_cases hl : rs.length ≤ 400
 ·rw [tabT_s hl]
  exact ⟨rfl,srt_rsw h,by show (srt rs).length ≤ 400; rw [srt_len]; exact hl,srt_asc h⟩
 ·rw [tabT_n hl]
  exact ⟨rfl,(fun r hr=>by cases hr),Nat.zero_le _,List.Pairwise.nil⟩
theorem TabW.eta {w : Nat} {t : Ta} (h : TabW w t) : t = ⟨(w : Int),t.rows⟩:=by
 rw [← h.wid]
theorem rsw_prj {w : Nat} {rs : List (List V)} (hs : RsW w rs) {es : List E} (hes : ∀ e,e ∈ es → eOk e w 8) : RsW es.length (rs.map (prjR es)):=fun r hr=>by
 obtain ⟨x,hx,rfl⟩:=List.mem_map.1 hr
 exact ⟨List.length_map _,fun v hv=>by
  obtain ⟨e,hm,rfl⟩:=List.mem_map.1 hv
  exact ev_ok (hs x hx).2 e 8 (by rw [(hs x hx).1]; exact hes e hm)⟩
structure DbW (ws : List Nat) (db : List Ta) : Prop where
 len : db.length = ws.length
 tab : ∀ (j : Nat) (t : Ta) (w : Nat),db[j]? = some t → ws[j]? = some w → TabW w t
 few : ws.length ≤ 4
 wid : ∀ w,w ∈ ws → 1 ≤ w ∧ w ≤ 6
theorem Wt.pos {ws : List Nat} (hw : ∀ w,w ∈ ws → 1 ≤ w ∧ w ≤ 6) {p : Pl} {w : Nat} (h : Wt ws p w) : 1 ≤ w ∧ w ≤ 6:=by
 induction h with
 | scan _ _ h _=>exact hw _ (List.mem_of_getElem? h)
 | filter _ _ _ _ _ ih=>exact ih
 | project _ _ _ _ hl=>exact hl
 | join _ _ _ _ _ _ hl ih1 ih2=>omega
 | union _ _ _ _ ih _=>exact ih
 | distinct _ _ _ ih=>exact ih
 | group _ _ _ _ hl=>omega
theorem evalPlan_ok {ws : List Nat} {db : List Ta} (hd : DbW ws db) {p : Pl} {w : Nat} (h : Wt ws p w) : TabW w (evP db p) ∧ Does Tryz.prog 35 [] [pD p,tasD db] (taD (evP db p)) []:=by
 induction h with
 | @scan p j w hk ht hj hks=>
  obtain ⟨t,hdj⟩ : ∃ t,db[j]? = some t:=⟨_,List.getElem?_eq_getElem (by have:=(List.getElem?_eq_some_iff.1 hj).1; have:=hd.len; omega)⟩
  have hT:=hd.tab j t w hdj hj
  have hwl:=hd.wid w (List.mem_of_getElem? hj)
  have hjl:=(List.getElem?_eq_some_iff.1 hdj).1
  have hev : evP db p = t:=by
   rw [evP_0 hks,opT,if_pos hk,ht,List.getD_eq_getElem?_getD,show ((j : Int)).toNat = j from rfl,hdj]
   rfl
  have h1:=tableOf_tab t.w w (by omega) t.rows (by have:=hT.few; omega) hT.row
  rw [tabT_s hT.few,srt_of_asc hT.row hT.asc] at h1
  rw [hev]
  refine ⟨hT,?_⟩
  refine Bg c_Z172 mixed (go1 (cj4 @hk @ht @hks @hdj) ?_)
  exact Uc @hdj (h1) (go0 @hdj)
 | @filter p q w e hk hks hes hq he ih=>
  obtain ⟨hT,hq2⟩:=ih
  have hwl:=hq.pos hd.wid
  rw [evP_1 hks,opT,if_neg (by omega),if_pos hk,hes]
  have hE:=hT.eta
  have h1:=filterTable_ok (w:=w) (by omega) (evP db q).rows (by have:=hT.few; omega) hT.row e 8 he
  rw [← hE] at h1
  rw [hT.wid]
  refine ⟨tabT_w (rsw_sub List.filter_sublist hT.row),?_⟩
  generalize evP db q = t at *
  have hr : List.headD [e] (E.mk 2 0 ⟨false,0⟩ []) = e:=rfl
  rw [hr]
  refine Bg c_Z172 mixed (go1 (cj3 @hk @hks @hes) ?_)
  refine Uc (cj3 @hk @hks @hes) (hq2) (go1 (cj3 @hk @hks @hes) ?_)
  exact Uc trivial (h1) (go0 trivial)
 | @project p q w hk hks hq hes hl ih=>
  obtain ⟨hT,hq2⟩:=ih
  have hwl:=hq.pos hd.wid
  rw [evP_1 hks,opT,if_neg (by omega),if_neg (by omega),if_pos hk]
  have hE:=hT.eta
  have h1:=projectTable_ok (w:=w) (by omega) (evP db q).rows (by have:=hT.few; omega) hT.row p.es 8 (by omega) hes
  rw [← hE] at h1
  refine ⟨tabT_w (rsw_prj hT.row hes),?_⟩
  generalize evP db q = t at *
  refine Bg c_Z172 mixed (go1 (cj2 @hk @hks) ?_)
  refine Uc (cj2 @hk @hks) (hq2) (go1 (cj2 @hk @hks) ?_)
  exact Uc trivial (h1) (go0 trivial)
 | @join p q r wa wb e hk hks hes hq hr he hw ih1 ih2=>
  obtain ⟨hTa,hq2⟩:=ih1
  obtain ⟨hTb,hr2⟩:=ih2
  rw [evP_2 hks,opT,if_neg (by omega),if_neg (by omega),if_neg (by omega),if_pos hk,hes]
  have hEa:=hTa.eta
  have hEb:=hTb.eta
  have h1:=joinTables_ok (wa:=wa) (wb:=wb) (by omega) (evP db q).rows (evP db r).rows (by have:=hTa.few; omega) (by have:=hTb.few; omega) hTa.row hTb.row e 8 he (p.k == 5)
  rw [← hEa,← hEb] at h1
  rw [hTa.wid,hTb.wid]
  have hwt:=tabT_w (rsw_joi hTa.row hTb.row (p.k == 5) e)
  rw [show ((wa + wb : Nat) : Int) = (wa : Int) + (wb : Int) by omega] at hwt
  refine ⟨hwt,?_⟩
  generalize evP db q = ta at *
  generalize evP db r = tb at *
  have hr : List.headD [e] (E.mk 2 0 ⟨false,0⟩ []) = e:=rfl
  rw [hr,show ((wb : Int)).toNat = wb from rfl]
  rcases hk with hk | hk
  ·rw [hk] at h1 ⊢
   refine Bg c_Z172 mixed (go1 (cj3 @hk @hks @hes) ?_)
   refine Uc (cj3 @hk @hks @hes) (hq2) (go1 (cj3 @hk @hks @hes) ?_)
   refine Uc (cj3 @hk @hks @hes) (hr2) (go1 (cj3 @hk @hks @hes) ?_)
   exact Uc trivial (h1) (go0 trivial)
  ·rw [hk] at h1 ⊢
   refine Bg c_Z172 mixed (go1 (cj3 @hk @hks @hes) ?_)
   refine Uc (cj3 @hk @hks @hes) (hq2) (go1 (cj3 @hk @hks @hes) ?_)
   refine Uc (cj3 @hk @hks @hes) (hr2) (go1 (cj3 @hk @hks @hes) ?_)
   exact Uc trivial (h1) (go0 trivial)
 | @union p q r w hk hks hq hr ih1 ih2=>
  obtain ⟨hTa,hq2⟩:=ih1
  obtain ⟨hTb,hr2⟩:=ih2
  have hwl:=hq.pos hd.wid
  rw [evP_2 hks,opT,if_neg (by omega),if_neg (by omega),if_neg (by omega),if_neg (by omega),if_pos hk]
  have hEa:=hTa.eta
  have hEb:=hTb.eta
  have h1:=union_ok (w:=w) (by omega) (evP db q).rows (evP db r).rows hTa.few hTb.few hTa.row hTb.row w
  rw [← hEa,← hEb] at h1
  rw [hTa.wid]
  refine ⟨tabT_w (fun x hx=>(List.mem_append.1 hx).elim (hTa.row x) (hTb.row x)),?_⟩
  generalize evP db q = ta at *
  generalize evP db r = tb at *
  refine Bg c_Z172 mixed (go1 (cj2 @hk @hks) ?_)
  refine Uc (cj2 @hk @hks) (hq2) (go1 (cj2 @hk @hks) ?_)
  refine Uc (cj2 @hk @hks) (hr2) (go1 (cj2 @hk @hks) ?_)
  exact Uc trivial (h1) (go0 trivial)
 | @distinct p q w hk hks hq ih=>
  obtain ⟨hT,hq2⟩:=ih
  have hwl:=hq.pos hd.wid
  rw [evP_1 hks,opT,if_neg (by omega),if_neg (by omega),if_neg (by omega),if_neg (by omega),if_neg (by omega),if_pos hk]
  have hE:=hT.eta
  have h1:=distinctRows_ok (w:=w) (by omega) (evP db q).rows hT.few hT.row
  rw [← hE] at h1
  rw [hT.wid]
  have hsub:=dstL_sub (evP db q).rows (evP db q).rows.length (Nat.le_refl _)
  rw [List.take_length] at hsub
  refine ⟨⟨rfl,rsw_sub hsub hT.row,Nat.le_trans hsub.length_le hT.few,asc_sub hsub hT.asc⟩,?_⟩
  generalize evP db q = t at *
  refine Bg c_Z172 mixed (go1 (cj2 @hk @hks) ?_)
  refine Uc (cj2 @hk @hks) (hq2) (go1 (cj2 @hk @hks) ?_)
  exact Uc trivial (h1) (go0 trivial)
 | @group p q w hk hks hq hc hl ih=>
  obtain ⟨hT,hq2⟩:=ih
  have hwl:=hq.pos hd.wid
  rw [evP_1 hks,opT,if_neg (by omega),if_neg (by omega),if_neg (by omega),if_neg (by omega),if_neg (by omega),if_neg (by omega)]
  have hE:=hT.eta
  have h1:=groupTable_ok (w:=w) (by omega) (evP db q).rows hT.few hT.row p.cs (by omega) hc
  rw [← hE] at h1
  have hwt:=tabT_w (grp_rsw hT.row hT.few hc)
  rw [show ((p.cs.length + 1 : Nat) : Int) = (p.cs.length : Int) + 1 by omega] at hwt
  refine ⟨hwt,?_⟩
  generalize evP db q = t at *
  refine Bg c_Z172 mixed (go1 (cj2 @hk @hks) ?_)
  refine Uc (cj2 @hk @hks) (hq2) (go1 (cj2 @hk @hks) ?_)
  exact Uc trivial (h1) (go0 trivial)
end Go.Proofs.YtefldihjbaodnaaGreat
set_option maxHeartbeats 4000000
set_option maxRecDepth 100000
set_option linter.unusedVariables false
set_option linter.unusedSimpArgs false
namespace Go.Proofs.YtefldihjbaodnaaGreat
open Go.RowKit
variable {bs : List Nat} {ws : List Int} {p j u d : Nat} {x : Pl} {t k6 c n : Int} {q j1 u1 : Nat}
theorem oplan_proj (h : Pre bs ws p j u d x t k6 c n q j1 u1) (hc : c = 3 ∨ c = 4) {mm : Nat} (hmm : DPick bs (q + 1) 2 mm) (hm1 : mm ≤ 1) {es : List E} {ps : Nat → Nat} (hel : es.length = 1 + mm) (h0 : ps 0 = q + 2) (hes : ∀ i e,es[i]? = some e → DOne bs n (ps i) e (ps (i + 1))) : OPlan bs ws p j u ((d + 1 : Nat) : Int) (.mk 3 0 es [] [x]) (ps (1 + mm)) j1 u1:=by
 obtain ⟨hl,hd,h1,h2,h6,hk,hw,hn,h3,hj,hu⟩:=h
 rcases hc with rfl | rfl
 all_goals
  refine Bk c_Z64 mixed 3 (go1 trivial ?_)
  refine UcR [1000001] trivial (h1) (go1 trivial ?_)
  refine UcR [1000001] trivial (h2) (go1 trivial ?_)
  refine UcR [1000000,1000001,1000002] trivial (hk) (go1 trivial ?_)
  refine UcR [1000002] trivial (hw) (go1 trivial ?_)
  refine UcR [1000001] trivial (h3) (go1 trivial ?_)
  refine UcR [1000001] trivial (hmm) (go1 trivial ?_)
  refine dw_for (c:=6) (l:=fun i=>[(4,.ref 1000003 0),(5,.ref 1000001 0),(7,.ref 1000004 0),(8,I n),(9,.own 1000005 5 i),(10,I (1 + (mm : Int) - i)),(1000000,gnD ws j1 u1),(1000001,rdD bs (ps i)),(1000002,wrD ws),(1000003,.obj [I 0,I 0,.nul,.nul,.nul]),(1000004,.obj [I x.k,I x.t,.sl 5 (x.es.map eD),.sl 1 (x.cs.map I),.sl 5 (x.ks.map pD)]),(1000005,.row 5 ((es.take i).map eD))]) (1 + mm) (fun _=>True) 0 trivial ((wk_row 9 2000099 5 (by decide) (by decide) rfl rfl).trans (Wk.list [1000000,1000001,1000002,2000004,2000007,2000099] rfl rfl ?_)) (fun i hi _=>?_) (Nat.zero_le _)
  ·rw [h0]
   repeat' (first|(conv in hold _=>simp (disch:=omega) only [go_sem])|exact trivial|exact Sub.refl _|omega)
   exact congrArg (fun n=>D.v (Value.int .i64 n)) (by omega)
  ·have hlt:=take_len (vs:=es) (i:=i) (by omega)
   have hmt:=take_map eD (vs:=es) (i:=i) (by omega)
   by_cases hil : i < 1 + mm
   ·obtain ⟨e,he1⟩ : ∃ e,es[i]? = some e:=⟨es[i],List.getElem?_eq_getElem (by omega)⟩
    obtain ⟨⟨dd,hx1,hx2⟩,_⟩:=hes i e he1
    have hnx:=take_next he1
    refine go1 trivial ?_
    refine UcR [1000001] trivial (hx1) (go1 trivial ?_)
    refine UcR [1000001] trivial (hx2) (go1 trivial ?_)
    refine ⟨by omega,trivial,Wk.list [1000000,1000001,1000002,1000003,1000004,2000072] rfl rfl ?_⟩
    repeat' (first|(conv in hold _=>simp (disch:=omega) only [go_sem])|exact trivial|exact Sub.refl _|omega)
    refine ⟨congrArg (fun n=>D.v (Value.int .i64 n)) (by omega),?_⟩
    rw [hmt,hnx,List.map_append,List.map_cons,List.map_nil,eD_eq e]
   ·obtain rfl : i = 1 + mm:=by omega
    have e1 : es.take (1 + mm) = es:=List.take_of_length_le (by omega)
    have e2 : (es.map eD).take (1 + mm) = es.map eD:=List.take_of_length_le (by rw [List.length_map]; omega)
    refine go1F @e1 ?_
    refine fin_wk (wk_rowO 1000003 2000099 1 3 (by decide) (by decide) (by decide) rfl rfl rfl) ?_
    (conv in hold _=>simp (disch:=omega) only [go_sem,e1,e2])
    refine fin_L [1000000,1000001,1000002,1000005,2000099] ?_ ?_ rfl ?_
    repeat' (first|(conv in hold _=>simp (disch:=omega) only [go_sem,e1,e2])|exact trivial|exact Sub.refl _|omega)
    exact Sub.of_eq (by rw [hel])
end Go.Proofs.YtefldihjbaodnaaGreat
set_option maxHeartbeats 4000000
set_option maxRecDepth 100000
set_option linter.unusedVariables false
set_option linter.unusedSimpArgs false
namespace Go.Proofs.YtefldihjbaodnaaGreat
open Go.RowKit
def AscS (l : List (List V)) : Prop:=l.Pairwise (fun a b=>cmpR a b < 0)
theorem AscS.asc {l : List (List V)} (h : AscS l) : Asc l:=List.Pairwise.imp (fun h=>Int.le_of_lt h) h
theorem AscS.cnt {l : List (List V)} (h : AscS l) (x : List V) : cntE x l ≤ 1:=by
 induction l with
 | nil=>exact Nat.zero_le _
 | cons a l ih=>
  obtain ⟨h1,h2⟩:=List.pairwise_cons.1 h
  by_cases ha : a = x
  ·subst ha
   have h0 : cntE a l = 0:=Nat.eq_zero_of_not_pos (fun hp=>by
    have:=h1 a (cntE_pos.1 hp)
    rw [cmpR_self] at this
    exact absurd this (by decide))
   rw [cntE_same,h0]
   decide
  ·rw [cntE_ne ha]; exact ih h2
theorem ascR_at {l : List (List V)} (h : Asc l) {i j : Nat} {x y : List V} (hij : i < j) (hx : l[i]? = some x) (hy : l[j]? = some y) : cmpR x y ≤ 0:=by
 obtain ⟨h1,e1⟩:=List.getElem?_eq_some_iff.1 hx
 obtain ⟨h2,e2⟩:=List.getElem?_eq_some_iff.1 hy
 have:=List.pairwise_iff_getElem.1 h i j h1 h2 hij
 rw [e1,e2] at this
 exact this
theorem dst_in {w : Nat} {rs : List (List V)} (hr : RsW w rs) (ha : Asc rs) : ∀ i,i ≤ rs.length → AscS (dstL rs i) ∧ ∀ x,x ∈ dstL rs i ↔ x ∈ rs.take i
 | 0,_=>⟨List.Pairwise.nil,fun x=>by rw [List.take_zero]; exact Iff.rfl⟩
 | i + 1,hi=>by
  obtain ⟨h1,h2⟩:=dst_in hr ha i (by omega)
  obtain ⟨x,hx⟩ : ∃ x,rs[i]? = some x:=⟨_,List.getElem?_eq_getElem (by omega)⟩
  have hgx : rs.getD i [] = x:=by rw [List.getD_eq_getElem?_getD,hx]; rfl
  have htk:=take_next hx
  rw [dstL,hgx]
  cases i with
  | zero=>
   rw [if_pos (show dstP rs 0 = true from rfl),htk,List.take_zero]
   exact ⟨List.pairwise_singleton ..,fun z=>Iff.rfl⟩
  | succ j=>
   obtain ⟨y,hy⟩ : ∃ y,rs[j]? = some y:=⟨_,List.getElem?_eq_getElem (by omega)⟩
   have hgy : rs.getD j [] = y:=by rw [List.getD_eq_getElem?_getD,hy]; rfl
   have hdp : dstP rs (j + 1) = !(cmpR y x == 0):=by
    show (!(cmpR (rs.getD j []) (rs.getD (j + 1) []) == 0)) = _
    rw [hgy,hgx]
   have hyx : cmpR y x ≤ 0:=ascR_at ha (Nat.lt_succ_self j) hy hx
   have hym : y ∈ rs.take (j + 1):=by rw [take_next hy]; exact List.mem_append_right _ (List.mem_singleton.2 rfl)
   have hxr:=hr x (List.mem_of_getElem? hx)
   have hyr:=hr y (List.mem_of_getElem? hy)
   by_cases he : cmpR y x = 0
   ·have hyx:=cmpR_eq he
    rw [if_neg (by rw [hdp,he]; decide),List.append_nil]
    refine ⟨h1,fun z=>?_⟩
    rw [h2 z,htk,List.mem_append,List.mem_singleton]
    exact ⟨Or.inl,fun h=>h.elim id (fun h=>by rw [h,← hyx]; exact hym)⟩
   ·have hlt : cmpR y x < 0:=by omega
    rw [if_pos (by rw [hdp]; simp [he])]
    refine ⟨List.pairwise_append.2 ⟨h1,List.pairwise_singleton ..,fun z hz u hu=>?_⟩,fun z=>?_⟩
    ·rw [List.mem_singleton.1 hu]
     have hzm:=(h2 z).1 hz
     have hzr:=hr z (List.mem_of_mem_take hzm)
     rw [take_next hy,List.mem_append,List.mem_singleton] at hzm
     rcases hzm with hzm | rfl
     ·obtain ⟨k,hk⟩:=List.mem_iff_getElem?.1 hzm
      have hkl:=(List.getElem?_eq_some_iff.1 hk).1
      rw [List.length_take] at hkl
      have hk2 : rs[k]? = some z:=by rw [List.getElem?_take] at hk; split at hk <;> first | exact hk | cases hk
      exact (cmpR_trans z y x (by rw [hzr.1,hyr.1]) (by rw [hyr.1,hxr.1]) hzr.2 hyr.2 hxr.2 (ascR_at ha (by omega) hk2 hy)).2 hlt
     ·exact hlt
    ·rw [List.mem_append,h2 z,htk,List.mem_append]
theorem dst_ascS {w : Nat} {rs : List (List V)} (hr : RsW w rs) (ha : Asc rs) : AscS (dstL rs rs.length) ∧ ∀ x,x ∈ dstL rs rs.length ↔ x ∈ rs:=by
 have h:=dst_in hr ha rs.length (Nat.le_refl _)
 rw [List.take_length] at h
 exact h
theorem mem_srt {x : List V} {l : List (List V)} : x ∈ srt l ↔ x ∈ l:=(srt_perm l).mem_iff
end Go.Proofs.YtefldihjbaodnaaGreat
