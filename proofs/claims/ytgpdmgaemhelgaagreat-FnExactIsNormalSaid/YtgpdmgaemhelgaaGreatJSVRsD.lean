/-
  A rule of the program at a part, a step at a plan, and ApplyStep. No condition.
-/
import Derived.Test.YtgpdmgaemhelgaaGreatKSDca
import Derived.Test.YtgpdmgaemhelgaaGreatKSDcg
import Derived.Test.YtgpdmgaemhelgaaGreatKSVRiB
import Derived.Test.YtgpdmgaemhelgaaGreatJSVGo
import Derived.Test.YtgpdmgaemhelgaaGreatKSDcf
import Derived.Test.YtgpdmgaemhelgaaGreatKSVRsC
import Derived.Test.YtgpdmgaemhelgaaGreatJSVRl
import Derived.Test.YtgpdmgaemhelgaaGreatJSVStP
set_option maxHeartbeats 4000000
set_option maxRecDepth 100000
set_option linter.unusedVariables false
set_option linter.unusedSimpArgs false
namespace Go.Proofs.YtgpdmgaemhelgaaGreat
open Go.RowKit
noncomputable def lvP (ws : List Int) (lev : Nat) (o : Option Pl) : Option Pl:=o.bind fun q=>if wdV ws q lev = 0 then none else some q
def ruD (kind : Int) (dk : D) (f : FuncId) : D:=.agg [I kind,dk,.fn f []]
def rulesD : List D:=[.agg [I 0,.nul,.v .nilFunc],ruD 2 (intsD [2]) 122,ruD 2 .nul 123,ruD 2 (intsD [4,5]) 124,ruD 2 (intsD [4]) 125,ruD 2 (intsD [4]) 126,ruD 4 .nul 127,ruD 2 (intsD [5]) 128,ruD 2 (intsD [6]) 129,ruD 7 (intsD [7,8]) 130,ruD 2 (intsD [3]) 131,ruD 3 (intsD [3]) 132]
theorem rewriteRules_ok : Does Tryz.prog 84 [] [] (.sl 3 rulesD) []:=by
 exact Bg c_Z42 mixed (go0 trivial)
theorem rule0_ok {p : Pl} (ws : List Int) (lev : Int) (h : p.k ≠ 0) : Does Tryz.prog 86 [] [.agg [I 0,.nul,.v .nilFunc],pD p,intsD ws,I lev] (paD none) []:=by
 unfold paD
 refine Bg c_Z12 mixed (go1 trivial ?_)
 exact zP_sub
theorem ruleK_no {kind : Int} {f : FuncId} {p : Pl} (kk : List Int) (ws : List Int) (lev : Int) (h : p.k ≠ kind) : Does Tryz.prog 86 [] [ruD kind (intsD kk) f,pD p,intsD ws,I lev] (paD none) []:=by
 unfold paD ruD
 refine Bg c_Z12 mixed (go1 trivial ?_)
 exact zP_sub
theorem ruleN_no {kind : Int} {f : FuncId} {p : Pl} (ws : List Int) (lev : Int) (h : p.k ≠ kind) : Does Tryz.prog 86 [] [ruD kind .nul f,pD p,intsD ws,I lev] (paD none) []:=by
 unfold paD ruD
 refine Bg c_Z12 mixed (go1 trivial ?_)
 exact zP_sub
theorem ruleK_kid {kind : Int} {f : FuncId} {t : Int} {es : List E} {cs : List Int} {q : Pl} {l : List Pl} (kk : List Int) (ws : List Int) (lev : Int) (h0 : 0 < kk.length) (hl : kk.length ≤ 10) (h : ¬ q.k ∈ kk) : Does Tryz.prog 86 [] [ruD kind (intsD kk) f,pD (.mk kind t es cs (q :: l)),intsD ws,I lev] (paD none) []:=by
 have hc:=contains_ok kk (by omega) q.k
 rw [decide_eq_false h] at hc
 unfold paD ruD
 refine Bg c_Z12 mixed (go1 trivial ?_)
 refine Uc trivial (hc) (go1 trivial ?_)
 exact zP_sub
section
variable {ws : List Int} (hw : wsOk ws) {kind t : Int} {f : FuncId} (hf : enters Tryz.prog f = true) {es : List E} {cs : List Int} {q : Pl} {l : List Pl} (lev : Nat) (hlev : lev ≤ 8)
include hw hf hlev
theorem ruleK_go (kk : List Int) (h0 : 0 < kk.length) (hl : kk.length ≤ 10) (h : q.k ∈ kk) {o : Option Pl} (hlo : ∀ x,o = some x → Loc x) (ho : Does Tryz.prog f [] [pD (.mk kind t es cs (q :: l)),pD q,intsD ws] (paD o) []) :
  Does Tryz.prog 86 [] [ruD kind (intsD kk) f,pD (.mk kind t es cs (q :: l)),intsD ws,I lev] (paD (lvP ws lev o)) []:=by
 have hc:=contains_ok kk (by omega) q.k
 rw [decide_eq_true h] at hc
 unfold ruD
 cases o with
 | none=>
  unfold lvP
  rw [Option.bind_none]
  unfold paD at ho ⊢
  refine Bg c_Z12 mixed (go1 trivial ?_)
  refine Uc trivial (hc) (go1 trivial ?_)
  refine v_fn (hf) ?_
  refine Uc trivial (ho) (go1 trivial ?_)
  exact zP_sub
 | some x=>
  obtain ⟨_,_,hwi⟩:=width_loc hw x (hlo x rfl) lev (by omega)
  unfold lvP
  rw [Option.bind_some]
  by_cases hz : wdV ws x lev = 0
  ·rw [if_pos hz]
   rw [hz] at hwi
   unfold paD at ho ⊢
   refine Bg c_Z12 mixed (go1 trivial ?_)
   refine Uc trivial (hc) (go1 trivial ?_)
   refine v_fn (hf) ?_
   refine Uc trivial (ho) (go1 trivial ?_)
   refine Uc trivial (hwi) (go1 trivial ?_)
   exact zP_sub
  ·rw [if_neg hz]
   generalize wdV ws x lev = wv at *
   unfold paD at ho ⊢
   refine Bg c_Z12 mixed (go1 trivial ?_)
   refine Uc trivial (hc) (go1 trivial ?_)
   refine v_fn (hf) ?_
   refine Uc trivial (ho) (go1 trivial ?_)
   exact Uc trivial (hwi) (go0 trivial)
theorem ruleN_go {o : Option Pl} (hlo : ∀ x,o = some x → Loc x) (ho : Does Tryz.prog f [] [pD (.mk kind t es cs (q :: l)),pD q,intsD ws] (paD o) []) :
  Does Tryz.prog 86 [] [ruD kind .nul f,pD (.mk kind t es cs (q :: l)),intsD ws,I lev] (paD (lvP ws lev o)) []:=by
 unfold ruD
 cases o with
 | none=>
  unfold lvP
  rw [Option.bind_none]
  unfold paD at ho ⊢
  refine Bg c_Z12 mixed (go1 trivial ?_)
  refine v_fn (hf) ?_
  refine Uc trivial (ho) (go1 trivial ?_)
  exact zP_sub
 | some x=>
  obtain ⟨_,_,hwi⟩:=width_loc hw x (hlo x rfl) lev (by omega)
  unfold lvP
  rw [Option.bind_some]
  by_cases hz : wdV ws x lev = 0
  ·rw [if_pos hz]
   rw [hz] at hwi
   unfold paD at ho ⊢
   refine Bg c_Z12 mixed (go1 trivial ?_)
   refine v_fn (hf) ?_
   refine Uc trivial (ho) (go1 trivial ?_)
   refine Uc trivial (hwi) (go1 trivial ?_)
   exact zP_sub
  ·rw [if_neg hz]
   generalize wdV ws x lev = wv at *
   unfold paD at ho ⊢
   refine Bg c_Z12 mixed (go1 trivial ?_)
   refine v_fn (hf) ?_
   refine Uc trivial (ho) (go1 trivial ?_)
   exact Uc trivial (hwi) (go0 trivial)
end
theorem replace_ok : ∀ (l : List Int) {p a : Pl} (q : Pl),paOf p l = some a → Loc p → l.length < 1000 → Does Tryz.prog 87 [] [intsD l,pD p,pD q] (pD (repP p l q)) []:=by
 intro l
 induction l with
 | nil=>
  intro p a q _ _ _
  rw [show repP p [] q = q from rfl]
  exact Bg c_Z20 mixed (go0 @intsD.eq_1)
 | cons i l ih=>
  intro p a q ha hp hll
  rw [paOf] at ha
  cases hk : kidAt p i with
  | none=>rw [hk] at ha; cases ha
  | some x=>
   rw [hk] at ha
   obtain ⟨k0,k1,k2⟩:=kidAt_some hk
   obtain ⟨l1,l2,l3,l4,l5⟩:=hp.own
   have hix:=ih q (show paOf x l = some a from ha) (l5 x (List.mem_of_getElem? k2)) (by simp at hll; omega)
   have hcl:=clonePlans_ok p.ks (by omega) (by omega)
   have h2 : p.ks.getD i.toNat zP = x:=by rw [List.getD_eq_getElem?_getD,k2]; rfl
   rw [rep_cons,h2]
   generalize repP x l q = y at *
   have hst : (p.ks.map pD).set i.toNat (pD y) = (p.ks.set i.toNat y).map pD:=by rw [List.map_set]
   rw [pD_eq y,intsD] at hst
   have hsl : (p.ks.set i.toNat y).length = p.ks.length:=List.length_set
   have htk : ((p.ks.set i.toNat y).map pD).take p.ks.length = (p.ks.set i.toNat y).map pD:=List.take_of_length_le (by rw [List.length_map,hsl]; exact Nat.le_refl _)
   have hdr : List.drop 1 (List.take ((l.length : Int) + 1).toNat (I i :: List.map I l)) = List.map I l:=by
    rw [show ((l.length : Int) + 1).toNat = l.length + 1 by omega,List.take_succ_cons,List.drop_succ_cons,List.drop_zero]
    exact take_all I l
   refine does0 c_Z20 mixed (Nat.le_of_ble_eq_true rfl) ?_
   conv=>arg 3; whnf
   repeat' (first|with_reducible refine acc_none ?_ | (conv in hold _=>simp (disch:=omega) only [go_sem,intsD,List.map_cons])|refine Stp.go ?_|(with_reducible first|refine it_pos rfl ?_|refine it_neg (by decide) ?_|refine st_nil rfl ?_|refine s_op ?_ ?_|exact trivial)|((with_reducible first|refine dw_reg0 ?_|refine dw_regB ?_);(conv=>arg 3;whnf))|(refine Spl.go (fun hq he=>?_) (fun hq he=>?_)<;>first|(exfalso;clear hq;omega)|((try first|(conv=>arg 8;simp only [hq])|(conv=>arg 4;simp only [hq]));clear hq))|((with_reducible first|refine c_split (fun hq=>?_) (fun hq=>?_)|refine q_split (fun hq=>?_) (fun hq=>?_))<;>(try first|(conv=>arg 8;simp only [hq])|(conv=>arg 4;simp only [hq])))|(with_reducible refine fin_0 ?_ (by first|rfl|(conv=>lhs;simp only [go_sem,intsD,List.map_cons])) ?_)|exact Sub.refl _|omega)
   refine c_doesR [3000001] (hcl) (callOK_of rfl (Nat.le_of_ble_eq_true rfl) rfl ?_ ?_) ?_ ?_
   ·repeat' (first|(conv in hold _=>simp (disch:=omega) only [go_sem,intsD,List.map_cons,List.getElem?_map,k2,Option.map_some,List.length_map,hdr])|exact trivial|exact Sub.refl _|omega)
   ·repeat' (first|(conv in hold _=>simp (disch:=omega) only [go_sem,intsD,List.map_cons,List.getElem?_map,k2,Option.map_some,List.length_map,hdr])|exact trivial|exact Sub.refl _|omega)
   ·((conv=>rhs;simp (disch:=omega) only [go_sem,intsD,List.map_cons,List.getElem?_map,k2,Option.map_some,List.length_map,hdr]); try rfl)
   repeat' (first|with_reducible refine acc_none ?_ | (conv in hold _=>simp (disch:=omega) only [go_sem,intsD,List.map_cons,List.getElem?_map,k2,Option.map_some,List.length_map,hdr])|refine Stp.go ?_|(with_reducible first|refine it_pos rfl ?_|refine it_neg (by decide) ?_|refine st_nil rfl ?_|refine s_op ?_ ?_|exact trivial)|((with_reducible first|refine dw_reg0 ?_|refine dw_regB ?_);(conv=>arg 3;whnf))|(refine Spl.go (fun hq he=>?_) (fun hq he=>?_)<;>first|(exfalso;clear hq;omega)|((try first|(conv=>arg 8;simp only [hq])|(conv=>arg 4;simp only [hq]));clear hq))|((with_reducible first|refine c_split (fun hq=>?_) (fun hq=>?_)|refine q_split (fun hq=>?_) (fun hq=>?_))<;>(try first|(conv=>arg 8;simp only [hq])|(conv=>arg 4;simp only [hq])))|(with_reducible refine fin_0 ?_ (by first|rfl|(conv=>lhs;simp only [go_sem,intsD,List.map_cons,List.getElem?_map,k2,Option.map_some,List.length_map,hdr])) ?_)|exact Sub.refl _|omega)
   refine c_doesE (hix) ?_ ?_ ?_
   ·((try (conv=>rhs;simp (disch:=omega) only [go_sem,intsD,List.map_cons,List.getElem?_map,k2,Option.map_some,List.length_map,hst,hdr])); try rfl)
   ·first|rfl|(conv=>lhs;simp only [go_sem,intsD,List.map_cons,List.getElem?_map,k2,Option.map_some,List.length_map,hst,hdr])
   repeat' (first|with_reducible refine acc_none ?_ | (conv in hold _=>simp (disch:=omega) only [go_sem,intsD,List.map_cons,List.getElem?_map,k2,Option.map_some,List.length_map,hst,hdr])|refine Stp.go ?_|(with_reducible first|refine it_pos rfl ?_|refine it_neg (by decide) ?_|refine st_nil rfl ?_|refine s_op ?_ ?_|exact trivial)|((with_reducible first|refine dw_reg0 ?_|refine dw_regB ?_);(conv=>arg 3;whnf))|(refine Spl.go (fun hq he=>?_) (fun hq he=>?_)<;>first|(exfalso;clear hq;omega)|((try first|(conv=>arg 8;simp only [hq])|(conv=>arg 4;simp only [hq]));clear hq))|((with_reducible first|refine c_split (fun hq=>?_) (fun hq=>?_)|refine q_split (fun hq=>?_) (fun hq=>?_))<;>(try first|(conv=>arg 8;simp only [hq])|(conv=>arg 4;simp only [hq])))|exact Sub.refl _|omega)
   refine fin_wk (wk_frzO 2000006 3000001 (by decide) (by decide) rfl (by decide) rfl ?_) ?_
   rotate_left
   (conv in hold _=>simp (disch:=omega) only [go_sem,List.length_map,hsl,htk,Nat.le_refl,hst])
   ·refine fin_L [] ?_ ?_ rfl ?_
    repeat' (first|(conv in hold _=>simp (disch:=omega) only [go_sem])|exact trivial|exact Sub.refl _|omega)
   ·exact plans_pur _
end Go.Proofs.YtgpdmgaemhelgaaGreat
set_option maxHeartbeats 4000000
set_option maxRecDepth 100000
set_option linter.unusedVariables false
set_option linter.unusedSimpArgs false
set_option linter.unusedSectionVars false
namespace Go.Proofs.YtgpdmgaemhelgaaGreat
open Go.RowKit
def rsD (p : Pl) : Option Pl → D
 | some q=>.tup [pD q,Bo true]
 | none=>.tup [pD p,Bo false]
theorem rsD_ite {p q : Pl} {c : Prop} [Decidable c] : rsD p (if c then some q else none) = if c then .tup [pD q,Bo true] else .tup [pD p,Bo false]:=by
 split <;> rfl
section
variable {ws : List Int} (hw : wsOk ws)
include hw
theorem rf_ok {e : E} {k : Pl} {d : Nat} {w : Int} (hq : Wf ws k d w) (he : eOk e w 8) (hd : d + 1 ≤ 8) (r : Int) : Does Tryz.prog 141 [] [pD (.mk 2 0 [e] [] [k]),I r,intsD ws] (rsD (.mk 2 0 [e] [] [k]) (ruP ws r (.mk 2 0 [e] [] [k]))) []:=by
 by_cases h1 : r = 1
 ·subst h1
  rw [show ruP ws 1 (.mk 2 0 [e] [] [k]) = ru1 (.mk 2 0 [e] [] [k]) from rfl]
  by_cases hk : k.k = 2
  ·obtain ⟨e',x,f,rfl,rfl,h1,h2⟩:=wf_2 hq hk
   rw [show ru1 (.mk 2 0 [e] [] [.mk 2 0 [e'] [] [x]]) = some (.mk 2 0 [.mk 8 0 ⟨false,0⟩ [e',e]] [] [x]) from if_pos ⟨rfl,rfl⟩]
   exact rf1 hw h1 h2 (by omega)
  ·rw [show ru1 (.mk 2 0 [e] [] [k]) = none from if_neg (fun h=>hk h.2)]
   exact rf_no hw hq (by omega) 1 (by omega) (by omega) (by omega) (by omega) (by omega) (by omega) (by omega) (by omega)
 by_cases h2 : r = 2
 ·subst h2
  rw [show ruP ws 2 (.mk 2 0 [e] [] [k]) = ru2 (.mk 2 0 [e] [] [k]) from rfl]
  by_cases hk : e.k = 8
  ·obtain ⟨a,b,hks⟩ : ∃ a b,e.ks = [a,b]:=by
    rcases eOk_kids he with ⟨h3,_⟩ | ⟨h3,_⟩ | ⟨_,a,b,hks,_,_⟩
    ·omega
    ·omega
    ·exact ⟨a,b,hks⟩
   obtain ⟨ek,ec,ev',eks⟩:=e
   simp only [E.k_mk,E.ks_mk] at hk hks
   subst hk hks
   rw [show ru2 (.mk 2 0 [.mk 8 ec ev' [a,b]] [] [k]) = some (.mk 2 0 [b] [] [.mk 2 0 [a] [] [k]]) from if_pos ⟨rfl,rfl⟩]
   exact rf2 hw hq (by omega)
  ·rw [show ru2 (.mk 2 0 [e] [] [k]) = none from if_neg (fun h=>hk h.2)]
   exact rf_no hw hq (by omega) 2 (by omega) (by omega) (by omega) (by omega) (by omega) (by omega) (by omega) (by omega)
 by_cases h3 : r = 3
 ·subst h3
  rw [show ruP ws 3 (.mk 2 0 [e] [] [k]) = ru3 ws (.mk 2 0 [e] [] [k]) from rfl]
  by_cases hk : k.k = 4 ∨ k.k = 5
  ·obtain ⟨e',x,y,f,a,b,hp,rfl,rfl,hx,hy,hab,he'⟩:=wf_45 hq hk
   generalize k.k = kk at *
   subst hp
   have hwx:=(planW hw hx (by omega)).2
   have hr : ru3 ws (.mk 2 0 [e] [] [.mk kk 0 [e'] [] [x,y]]) = if lowC e a then some (.mk kk 0 [e'] [] [.mk 2 0 [e] [] [x],y]) else none:=by
    unfold ru3
    simp only [fiP,eOf_mk,kOf_mk,lOf_mk,Pl.k_mk,Pl.es_mk,hwx]
    by_cases hl : lowC e a
    ·rw [if_pos ⟨trivial,hk,hl⟩,if_pos hl]
    ·rw [if_neg (fun h=>hl h.2.2),if_neg hl]
   rw [hr,rsD_ite]
   exact rf3 hw hk hx hy hab he' he (by omega)
  ·rw [show ru3 ws (.mk 2 0 [e] [] [k]) = none from if_neg (fun h=>hk h.2.1)]
   exact rf_no hw hq (by omega) 3 (by omega) (by omega) (by omega) (by omega) (by omega) (by omega) (by omega) (by omega)
 by_cases h4 : r = 4
 ·subst h4
  rw [show ruP ws 4 (.mk 2 0 [e] [] [k]) = ru4 ws (.mk 2 0 [e] [] [k]) from rfl]
  by_cases hk : k.k = 4
  ·obtain ⟨e',x,y,f,a,b,hp,rfl,rfl,hx,hy,hab,he'⟩:=wf_45 hq (.inl hk)
   rw [hk] at hp
   subst hp
   have hwx:=(planW hw hx (by omega)).2
   have hwy:=(planW hw hy (by omega)).2
   have hr : ru4 ws (.mk 2 0 [e] [] [.mk 4 0 [e'] [] [x,y]]) = if highC e a then some (.mk 4 0 [e'] [] [x,.mk 2 0 [subE (byR a b) e] [] [y]]) else none:=by
    unfold ru4
    simp only [fiP,eOf_mk,kOf_mk,lOf_mk,Pl.k_mk,Pl.es_mk,hwx,hwy]
    by_cases hl : highC e a
    ·rw [if_pos ⟨trivial,trivial,hl⟩,if_pos hl]
    ·rw [if_neg (fun h=>hl h.2.2),if_neg hl]
   rw [hr,rsD_ite]
   exact rf4 hw hx hy hab he' he (by omega)
  ·rw [show ru4 ws (.mk 2 0 [e] [] [k]) = none from if_neg (fun h=>hk h.2.1)]
   exact rf_no hw hq (by omega) 4 (by omega) (by omega) (by omega) (by omega) (by omega) (by omega) (by omega) (by omega)
 by_cases h5 : r = 5
 ·subst h5
  rw [show ruP ws 5 (.mk 2 0 [e] [] [k]) = ru5 (.mk 2 0 [e] [] [k]) from rfl]
  by_cases hk : k.k = 4
  ·obtain ⟨e',x,y,f,a,b,hp,rfl,rfl,hx,hy,hab,he'⟩:=wf_45 hq (.inl hk)
   rw [hk] at hp
   subst hp
   rw [show ru5 (.mk 2 0 [e] [] [.mk 4 0 [e'] [] [x,y]]) = some (.mk 4 0 [.mk 8 0 ⟨false,0⟩ [e',e]] [] [x,y]) from if_pos ⟨rfl,rfl⟩]
   exact rf5 hw hx hy hab he' (by omega)
  ·rw [show ru5 (.mk 2 0 [e] [] [k]) = none from if_neg (fun h=>hk h.2)]
   exact rf_no hw hq (by omega) 5 (by omega) (by omega) (by omega) (by omega) (by omega) (by omega) (by omega) (by omega)
 by_cases h7 : r = 7
 ·subst h7
  rw [show ruP ws 7 (.mk 2 0 [e] [] [k]) = ru7 ws (.mk 2 0 [e] [] [k]) from rfl]
  by_cases hk : k.k = 5
  ·obtain ⟨e',x,y,f,a,b,hp,rfl,rfl,hx,hy,hab,he'⟩:=wf_45 hq (.inr hk)
   rw [hk] at hp
   subst hp
   have hwx:=(planW hw hx (by omega)).2
   have hwy:=(planW hw hy (by omega)).2
   have hr : ru7 ws (.mk 2 0 [e] [] [.mk 5 0 [e'] [] [x,y]]) = if rejB e a b = true then some (.mk 2 0 [e] [] [.mk 4 0 [e'] [] [x,y]]) else none:=by
    unfold ru7
    simp only [fiP,eOf_mk,kOf_mk,lOf_mk,Pl.k_mk,Pl.es_mk,Pl.ks_mk,hwx,hwy]
    by_cases hl : rejB e a b = true
    ·rw [if_pos ⟨trivial,trivial,hl⟩,if_pos hl]
    ·rw [if_neg (fun h=>hl h.2.2),if_neg hl]
   rw [hr,rsD_ite]
   exact rf7 hw hx hy hab he' he (by omega)
  ·rw [show ru7 ws (.mk 2 0 [e] [] [k]) = none from if_neg (fun h=>hk h.2.1)]
   exact rf_no hw hq (by omega) 7 (by omega) (by omega) (by omega) (by omega) (by omega) (by omega) (by omega) (by omega)
 by_cases h8 : r = 8
 ·subst h8
  rw [show ruP ws 8 (.mk 2 0 [e] [] [k]) = ru8 (.mk 2 0 [e] [] [k]) from rfl]
  by_cases hk : k.k = 6
  ·obtain ⟨x,y,f,rfl,rfl,hx,hy⟩:=wf_6 hq hk
   rw [show ru8 (.mk 2 0 [e] [] [.mk 6 0 [] [] [x,y]]) = some (.mk 6 0 [] [] [.mk 2 0 [e] [] [x],.mk 2 0 [e] [] [y]]) from if_pos ⟨rfl,rfl⟩]
   exact rf8 hw hx hy (by omega)
  ·rw [show ru8 (.mk 2 0 [e] [] [k]) = none from if_neg (fun h=>hk h.2)]
   exact rf_no hw hq (by omega) 8 (by omega) (by omega) (by omega) (by omega) (by omega) (by omega) (by omega) (by omega)
 by_cases h10 : r = 10
 ·subst h10
  rw [show ruP ws 10 (.mk 2 0 [e] [] [k]) = ru10 (.mk 2 0 [e] [] [k]) from rfl]
  by_cases hk : k.k = 3
  ·obtain ⟨es,x,f,u,rfl,rfl,rfl,hx,hl,hes⟩:=wf_3 hq hk
   rw [show ru10 (.mk 2 0 [e] [] [.mk 3 0 es [] [x]]) = some (.mk 3 0 es [] [.mk 2 0 [subE es e] [] [x]]) from if_pos ⟨rfl,rfl⟩]
   exact rf10 hw hx hl hes he (by omega)
  ·rw [show ru10 (.mk 2 0 [e] [] [k]) = none from if_neg (fun h=>hk h.2)]
   exact rf_no hw hq (by omega) 10 (by omega) (by omega) (by omega) (by omega) (by omega) (by omega) (by omega) (by omega)
 have hn : ruP ws r (.mk 2 0 [e] [] [k]) = none:=by
  unfold ruP
  simp only [h1,h2,h3,h4,h5,h7,h8,h10,if_false]
  split
  ·exact if_neg (show ¬ (2 : Int) = 4 by decide)
  split
  ·exact if_neg (fun h=>absurd (show (2 : Int) = 7 from h.1) (by decide))
  split
  ·exact if_neg (fun h=>absurd (show (2 : Int) = 3 from h.1) (by decide))
  rfl
 rw [hn]
 exact rf_no hw hq (by omega) r (by omega) (by omega) (by omega) (by omega) (by omega) (by omega) (by omega) (by omega)
theorem rw_no {p : Pl} (r : Int) (h2 : ¬ p.k = 2) (h6 : r = 6 → ¬ p.k = 4) (h9 : r = 9 → ¬ p.k = 7) (h11 : r = 11 → ¬ p.k = 3) : Does Tryz.prog 97 [] [pD p,I r,intsD ws] (.tup [pD p,Bo false]) []:=by
 by_cases g6 : r = 6
 ·subst g6
  have g:=h6 rfl
  exact Bg c_Z134 mixed (go0 trivial)
 by_cases g9 : r = 9
 ·subst g9
  have g:=h9 rfl
  exact Bg c_Z134 mixed (go0 trivial)
 by_cases g11 : r = 11
 ·subst g11
  have g:=h11 rfl
  exact Bg c_Z134 mixed (go0 trivial)
 exact Bg c_Z134 mixed (go0 trivial)
theorem rw9 {q : Pl} : Does Tryz.prog 97 [] [pD (.mk 7 0 [] [] [q]),I 9,intsD ws] (if q.k = 7 ∨ q.k = 8 then .tup [pD q,Bo true] else .tup [pD (.mk 7 0 [] [] [q]),Bo false]) []:=by
 by_cases h7 : q.k = 7
 ·rw [if_pos (.inl h7)]
  exact Bg c_Z134 mixed (go0 trivial)
 by_cases h8 : q.k = 8
 ·rw [if_pos (.inr h8)]
  exact Bg c_Z134 mixed (go0 trivial)
 rw [if_neg (by omega)]
 exact Bg c_Z134 mixed (go0 trivial)
theorem rw11 {es fs : List E} {x : Pl} {u : Int} (hl : es.length ≤ 6) (hes : ∀ e,e ∈ es → eOk e fs.length 8) (hfs : ∀ e,e ∈ fs → eOk e u 8) : Does Tryz.prog 97 [] [pD (.mk 3 0 es [] [.mk 3 0 fs [] [x]]),I 11,intsD ws] (.tup [pD (.mk 3 0 (es.map (subE fs)) [] [x]),Bo true]) []:=by
 have hml : (es.map (subE fs)).length = es.length:=List.length_map ..
 refine Bg c_Z134 mixed (go1 trivial ?_)
 refine dw_for (c:=3) (l:=fun i=>[(3,.ref 1000000 0),(6,.ref 1000001 0),(7,Bo false),(12,.own 1000002 5 i),(13,I i),(1000000,.obj [I 3,I 0,.sl 5 (es.map eD),.sl 1 [],.sl 5 [pD (.mk 3 0 fs [] [x])]]),(1000001,.obj [I 0,I 0,.nul,.nul,.nul]),(1000002,.row 5 (((es.map (subE fs)).take i).map eD))]) es.length (fun _=>True) 0 trivial ((wk_row 12 2000190 5 (by decide) (by decide) rfl rfl).trans (Wk.list [2000003,2000006,2000190] rfl rfl ?_)) (fun i hi _=>?_) (Nat.zero_le _)
 ·repeat' (first|(conv in hold _=>simp (disch:=omega) only [go_sem])|exact trivial|exact Sub.refl _|omega)
  (repeat' apply And.intro) <;> rfl
 ·have hlt:=take_len (vs:=es.map (subE fs)) (i:=i) (by omega)
  have hmt:=take_map eD (vs:=es.map (subE fs)) (i:=i) (by omega)
  rcases at_or_end hi with ⟨e,hx0,hlt1⟩ | rfl
  ·have hs:=substitute_ok fs (fun b hb=>by have:=esz_small b 8 (hfs b hb) (by decide); omega) e 8 (hes e (List.mem_of_getElem? hx0))
   have hfx : (es.map (subE fs))[i]? = some (subE fs e):=by rw [List.getElem?_map,hx0]; rfl
   have hnx:=take_next hfx
   refine go1 @hx0 ?_
   refine Uc @hx0 (hs) (go1 @hx0 ?_)
   refine ⟨hlt1,trivial,Wk.list [1000000,1000001,2000136] rfl rfl ?_⟩
   repeat' (first|(conv in hold _=>simp (disch:=omega) only [go_sem])|exact trivial|exact Sub.refl _|omega)
   rw [hmt,hnx,List.map_append,List.map_cons,List.map_nil,eD_eq (subE fs e)]
  ·have e1 : (es.map (subE fs)).take es.length = es.map (subE fs):=List.take_of_length_le (by omega)
   have e2 : ((es.map (subE fs)).map eD).take es.length = (es.map (subE fs)).map eD:=List.take_of_length_le (by rw [List.length_map,List.length_map]; exact Nat.le_refl _)
   refine go1F @e1 ?_
   refine fin_wk (wk_frzO 1000001 1000002 (by decide) (by decide) rfl (by decide) rfl ?_) ?_
   rotate_left
   (conv in hold _=>simp (disch:=omega) only [go_sem,e1,e2,hml,Nat.le_refl])
   ·refine fin_L [] ?_ ?_ rfl ?_
    repeat' (first|(conv in hold _=>simp (disch:=omega) only [go_sem])|exact trivial|exact Sub.refl _|omega)
    all_goals first
     | exact Sub.refl _
     | exact Sub.tup ⟨Sub.agg ⟨Sub.refl _,Sub.refl _,Sub.refl _,Sub.nul 1,Sub.refl _,trivial⟩,Sub.refl _,trivial⟩
   ·exact exprs_pur _
end
end Go.Proofs.YtgpdmgaemhelgaaGreat
