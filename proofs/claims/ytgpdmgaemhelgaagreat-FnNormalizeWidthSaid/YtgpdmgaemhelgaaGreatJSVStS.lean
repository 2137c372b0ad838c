/-
  The model's rewriting of any part, of a plan at a path, and ApplyStep. No condition.
-/
import Derived.Test.YtgpdmgaemhelgaaGreatKSDca
import Derived.Test.YtgpdmgaemhelgaaGreatKSDcf
import Derived.Test.YtgpdmgaemhelgaaGreatKSDcg
import Derived.Test.YtgpdmgaemhelgaaGreatJSVRiE
import Derived.Test.YtgpdmgaemhelgaaGreatJSVYld
import Derived.Test.YtgpdmgaemhelgaaGreatJSDcv
import Derived.Test.YtgpdmgaemhelgaaGreatJSVRsA
set_option maxHeartbeats 4000000
set_option maxRecDepth 100000
set_option linter.unusedVariables false
set_option linter.unusedSimpArgs false
set_option linter.unusedSectionVars false
namespace Go.Proofs.YtgpdmgaemhelgaaGreat
open Go.RowKit
theorem onePl {cs : List D} {p : Pl} (h : SubL cs [I p.k,I p.t,.sl 5 (p.es.map eD),intsD p.cs,.sl 5 (p.ks.map pD)]) : Sub (.sl 5 [.agg cs]) (.sl 5 [pD p]):=by
 rw [pD_eq]
 refine Sub.sl rfl (fun e he=>by rw [List.mem_singleton.1 he]; rfl) ?_
 have e1 : ∀ l : List D,D.flat [.agg l] = l:=fun l=>by unfold D.flat; rw [List.flatMap_cons,List.flatMap_nil,List.append_nil]; rfl
 rw [e1,e1]
 exact h
section
variable {ws : List Int} (hw : wsOk ws)
include hw
theorem rw6 {e : E} {x y : Pl} {a b : Int} {d : Nat} (hx : Wf ws x d a) (hy : Wf ws y d b) (hab : a + b ≤ 6) (he : eOk e (a + b) 8) (hd : d ≤ 8) : Does Tryz.prog 97 [] [pD (.mk 4 0 [e] [] [x,y]),I 6,intsD ws] (.tup [pD (.mk 3 0 (byB a b) [] [.mk 4 0 [subE (byB a b) e] [] [y,x]]),Bo true]) []:=by
 have ha:=(wf_to hw hx).2
 have hb:=(wf_to hw hy).2
 have hx:=(planW hw hx hd).1
 have hy:=(planW hw hy hd).1
 have hbl : (byB a b).length = a.toNat + b.toNat:=by unfold byB; rw [List.length_append,colF_len,colF_len]
 have hsub:=substitute_ok (byB a b) (fun x hx=>by rw [esz_byB hx]; decide) e 8 (by rw [hbl]; rw [show (((a.toNat + b.toNat : Nat)) : Int) = a + b by omega]; exact he)
 obtain ⟨na,rfl⟩:=Int.eq_ofNat_of_zero_le (show 0 ≤ a by omega)
 obtain ⟨nb',rfl⟩:=Int.eq_ofNat_of_zero_le (show 0 ≤ b by omega)
 have hc1:=columnsFrom_own nb' na (by omega) (by omega)
 have hc2:=columnsFrom_own 0 nb' (by omega) (by omega)
 have t1:=take_all cD (ciL nb' na)
 have t2:=take_all cD (ciL 0 nb')
 rw [ciL_len] at t1 t2
 have hby : (ciL nb' na).map cD ++ (ciL 0 nb').map cD = (ciL nb' na ++ ciL 0 nb').map cD:=(List.map_append ..).symm
 have hl1 : ((ciL nb' na).map cD).length = na:=by rw [List.length_map,ciL_len]
 have hl2 : ((ciL 0 nb').map cD).length = nb':=by rw [List.length_map,ciL_len]
 have hl3 : ((ciL nb' na ++ ciL 0 nb').map cD).length = na + nb':=by rw [List.length_map,List.length_append,ciL_len,ciL_len]
 have t3 : ((ciL nb' na ++ ciL 0 nb').map cD).take (na + nb') = (ciL nb' na ++ ciL 0 nb').map cD:=List.take_of_length_le (by omega)
 have hbe : byB (na : Int) (nb' : Int) = (ciL nb' na ++ ciL 0 nb').map (fun c=>E.mk 1 c ⟨false,0⟩ []):=by
  rw [List.map_append,← colF_ci,← colF_ci]
  rfl
 have hcs : Sub (.sl 5 ((ciL nb' na ++ ciL 0 nb').map cD)) (.sl 5 ((byB (na : Int) (nb' : Int)).map eD)):=by
  rw [hbe]
  exact cD_sub _
 have hsub:=hsub.weak (es:=[eD e,.sl 5 ((ciL nb' na ++ ciL 0 nb').map cD)]) ⟨Sub.refl _,hcs,trivial⟩ (Sub.refl _)
 have hend : Sub (.tup [.agg [I 3,I 0,.sl 5 ((ciL nb' na ++ ciL 0 nb').map cD),.nul,.sl 5 [.agg [I 4,I 0,.sl 5 [eD (subE (byB na nb') e)],.nul,.sl 5 [pD y,pD x]]]],Bo true]) (.tup [pD (.mk 3 0 (byB na nb') [] [.mk 4 0 [subE (byB na nb') e] [] [y,x]]),Bo true]):=by
  refine Sub.tup ⟨plS (k:=3) (t:=0) (cs:=[]) (ks:=[.mk 4 0 [subE (byB na nb') e] [] [y,x]]) hcs (Sub.nul 1) ?_,Sub.refl _,trivial⟩
  exact onePl (p:=.mk 4 0 [subE (byB na nb') e] [] [y,x]) ⟨Sub.refl _,Sub.refl _,Sub.refl _,Sub.nul 1,Sub.refl _,trivial⟩
 generalize subE (byB (na : Int) (nb' : Int)) e = e2 at *
 have hrp : (pD (.mk 3 0 (byB (na : Int) (nb' : Int)) [] [.mk 4 0 [e2] [] [y,x]])).pur = true:=by rw [pD_eq]; rfl
 generalize pD (.mk 3 0 (byB (na : Int) (nb' : Int)) [] [.mk 4 0 [e2] [] [y,x]]) = rr at *
 simp only [go_sem] at hend
 refine Bg c_Z153 mixed (go1 trivial ?_)
 refine Uc trivial (hx) (go1 trivial ?_)
 refine Uc trivial (hy) (go1 trivial ?_)
 refine UcR [3000001] trivial (hc1) (go1 trivial ?_)
 refine UcR [3000002] (cj5 @t1 @t2 @hby @hl1 @hl2) (hc2) (go1C (cj5 @t1 @t2 @hby @hl1 @hl2) ?_)
 refine s_pre (pre_frz2 (t:=54) (u:=10) (g:=2000049) (by decide) (by decide) (by decide) rfl ?_) ?_
 rotate_left
 refine go1 (cj7 @t1 @t2 @hby @t3 @hl1 @hl2 @hl3) ?_
 ·exact Uc (cj5 @t1 @t2 @hby @t3 @hrp) (hsub) (go0 (cj5 @t1 @t2 @hby @t3 @hrp))
  all_goals exact hend
 ·exact cD_pur _
theorem rewrite_ok {p : Pl} {d : Nat} {w : Int} (h : Wf ws p d w) (hd : d ≤ 8) (r : Int) : Does Tryz.prog 97 [] [pD p,I r,intsD ws] (rsD p (ruP ws r p)) []:=by
 by_cases h2 : p.k = 2
 ·obtain ⟨e,k,f,rfl,rfl,h1,he⟩:=wf_2 h h2
  have hr:=rf_ok hw h1 he hd r
  generalize hq : ruP ws r (.mk 2 0 [e] [] [k]) = o at *
  cases o with
  | none=>
   unfold rsD at hr ⊢
   refine Bg c_Z153 mixed (go1 trivial ?_)
   exact Uc trivial (hr) (go0 trivial)
  | some q=>
   unfold rsD at hr ⊢
   refine Bg c_Z153 mixed (go1 trivial ?_)
   exact Uc trivial (hr) (go0 trivial)
 by_cases h6 : r = 6 ∧ p.k = 4
 ·obtain ⟨rfl,hk⟩:=h6
  obtain ⟨e,x,y,f,a,b,hp,rfl,rfl,hx,hy,hab,he⟩:=wf_45 h (.inl hk)
  rw [hk] at hp
  subst hp
  have hwx:=(planW hw hx (by omega)).2
  have hwy:=(planW hw hy (by omega)).2
  have hr : ruP ws 6 (.mk 4 0 [e] [] [x,y]) = some (.mk 3 0 (byB a b) [] [.mk 4 0 [subE (byB a b) e] [] [y,x]]):=by
   rw [show ruP ws 6 (.mk 4 0 [e] [] [x,y]) = ru6 ws (.mk 4 0 [e] [] [x,y]) from rfl]
   unfold ru6
   rw [if_pos (show (Pl.mk 4 0 [e] [] [x,y]).k = 4 from rfl)]
   simp only [prP,eOf_mk,kOf_mk,lOf_mk,hwx,hwy]
  rw [hr]
  exact rw6 hw hx hy hab he (by omega)
 by_cases h9 : r = 9 ∧ p.k = 7
 ·obtain ⟨rfl,hk⟩:=h9
  obtain ⟨q,f,rfl,rfl,hq⟩:=wf_7 h hk
  have hr : ruP ws 9 (.mk 7 0 [] [] [q]) = if q.k = 7 ∨ q.k = 8 then some q else none:=by
   rw [show ruP ws 9 (.mk 7 0 [] [] [q]) = ru9 (.mk 7 0 [] [] [q]) from rfl]
   unfold ru9
   by_cases hc : q.k = 7 ∨ q.k = 8
   ·rw [if_pos ⟨rfl,hc⟩,if_pos hc]; rfl
   ·rw [if_neg (fun g=>hc g.2),if_neg hc]
  rw [hr,rsD_ite]
  exact rw9 hw
 by_cases h11 : r = 11 ∧ p.k = 3
 ·obtain ⟨rfl,hk⟩:=h11
  obtain ⟨es,q,f,v,rfl,rfl,rfl,h1,hl,hes⟩:=wf_3 h hk
  by_cases hq3 : q.k = 3
  ·obtain ⟨fs,x,f,v2,rfl,rfl,rfl,hx,hl2,hfs⟩:=wf_3 h1 hq3
   rw [show ruP ws 11 (.mk 3 0 es [] [.mk 3 0 fs [] [x]]) = ru11 (.mk 3 0 es [] [.mk 3 0 fs [] [x]]) from rfl,show ru11 (.mk 3 0 es [] [.mk 3 0 fs [] [x]]) = some (.mk 3 0 (es.map (subE fs)) [] [x]) from if_pos ⟨rfl,rfl⟩]
   exact rw11 hw hl.2 hes hfs
  ·rw [show ruP ws 11 (.mk 3 0 es [] [q]) = ru11 (.mk 3 0 es [] [q]) from rfl,show ru11 (.mk 3 0 es [] [q]) = none from if_neg (fun g=>hq3 g.2)]
   unfold rsD
   exact Bg c_Z153 mixed (go0 trivial)
 have hn : ruP ws r p = none:=by
  unfold ruP
  split; · exact if_neg (fun g=>h2 g.1)
  split; · exact if_neg (fun g=>h2 g.1)
  split; · exact if_neg (fun g=>h2 g.1)
  split; · exact if_neg (fun g=>h2 g.1)
  split; · exact if_neg (fun g=>h2 g.1)
  split
  ·rename_i g0; exact if_neg (fun g=>h6 ⟨g0,g⟩)
  split; · exact if_neg (fun g=>h2 g.1)
  split; · exact if_neg (fun g=>h2 g.1)
  split
  ·rename_i g0; exact if_neg (fun g=>h9 ⟨g0,g.1⟩)
  split; · exact if_neg (fun g=>h2 g.1)
  split
  ·rename_i g0; exact if_neg (fun g=>h11 ⟨g0,g.1⟩)
  rfl
 rw [hn]
 exact rw_no hw r h2 (fun g0 g=>h6 ⟨g0,g⟩) (fun g0 g=>h9 ⟨g0,g⟩) (fun g0 g=>h11 ⟨g0,g⟩)
end
theorem replaceAt_ok : ∀ (l : List Int) {p a : Pl} (q : Pl),paOf p l = some a → Loc p → Loc q → l.length < 1000 → Does Tryz.prog 98 [] [pD p,intsD l,pD q] (pD (repP p l q)) []:=by
 intro l
 induction l with
 | nil=>
  intro p a q _ _ hq _
  have hc:=copyPlan_loc q hq
  rw [show repP p [] q = q from rfl]
  refine Bg c_Z117 mixed (go1 @intsD.eq_1 ?_)
  exact Uc trivial (hc) (go0 trivial)
 | cons i l ih=>
  intro p a q ha hp hq hll
  rw [paOf] at ha
  cases hk : kidAt p i with
  | none=>rw [hk] at ha; cases ha
  | some x=>
   rw [hk] at ha
   obtain ⟨k0,k1,k2⟩:=kidAt_some hk
   obtain ⟨l1,l2,l3,l4,l5⟩:=hp.own
   have hix:=ih q (show paOf x l = some a from ha) (l5 x (List.mem_of_getElem? k2)) hq (by simp at hll; omega)
   have hcl:=copyPlan_kids p hp (by omega)
   have h2 : p.ks.getD i.toNat zP = x:=by rw [List.getD_eq_getElem?_getD,k2]; rfl
   rw [rep_cons,h2]
   generalize repP x l q = y at *
   have hst : (p.ks.map pD).set i.toNat (pD y) = (p.ks.set i.toNat y).map pD:=by rw [List.map_set]
   rw [pD_eq y,intsD] at hst
   have hsl : (p.ks.set i.toNat y).length = p.ks.length:=List.length_set
   have htk : ((p.ks.set i.toNat y).map pD).take p.ks.length = (p.ks.set i.toNat y).map pD:=List.take_of_length_le (by rw [List.length_map,hsl]; exact Nat.le_refl _)
   have hdr : List.drop 1 (List.take ((l.length : Int) + 1).toNat (I i :: List.map I l)) = List.map I l:=by
    rw [show ((l.length : Int) + 1).toNat = l.length + 1 by omega,List.take_succ_cons,List.drop_succ_cons,List.drop_zero]
    exact take_all I l
   refine does0 c_Z117 mixed (Nat.le_of_ble_eq_true rfl) ?_
   conv=>arg 3; whnf
   repeat' (first|with_reducible refine acc_none ?_ | (conv in hold _=>simp (disch:=omega) only [go_sem,intsD,List.map_cons])|refine Stp.go ?_|(with_reducible first|refine it_pos rfl ?_|refine it_neg (by decide) ?_|refine st_nil rfl ?_|refine s_op ?_ ?_|exact trivial)|((with_reducible first|refine dw_reg0 ?_|refine dw_regB ?_);(conv=>arg 3;whnf))|(refine Spl.go (fun hq he=>?_) (fun hq he=>?_)<;>first|(exfalso;clear hq;omega)|((try first|(conv=>arg 8;simp only [hq])|(conv=>arg 4;simp only [hq]));clear hq))|((with_reducible first|refine c_split (fun hq=>?_) (fun hq=>?_)|refine q_split (fun hq=>?_) (fun hq=>?_))<;>(try first|(conv=>arg 8;simp only [hq])|(conv=>arg 4;simp only [hq])))|(with_reducible refine fin_0 ?_ (by first|rfl|(conv=>lhs;simp only [go_sem,intsD,List.map_cons])) ?_)|exact Sub.refl _|omega)
   refine c_doesR [3000001] (hcl) (callOK_of rfl (Nat.le_of_ble_eq_true rfl) rfl ?_ ?_) ?_ ?_
   ·repeat' (first|(conv in hold _=>simp (disch:=omega) only [go_sem,intsD,List.map_cons,List.getElem?_map,k2,Option.map_some,List.length_map,hdr])|exact trivial|exact Sub.refl _|omega)
   ·repeat' (first|(conv in hold _=>simp (disch:=omega) only [go_sem,intsD,List.map_cons,List.getElem?_map,k2,Option.map_some,List.length_map,hdr])|exact trivial|exact Sub.refl _|omega)
   ·((conv=>rhs;simp (disch:=omega) only [go_sem,intsD,List.map_cons,List.getElem?_map,k2,Option.map_some,List.length_map,hdr]); try rfl)
   repeat' (first|with_reducible refine acc_none ?_ | (conv in hold _=>simp (disch:=omega) only [go_sem,intsD,List.map_cons,List.getElem?_map,k2,Option.map_some,List.length_map,hdr])|refine Stp.go ?_|(with_reducible first|refine it_pos rfl ?_|refine it_neg (by decide) ?_|refine st_nil rfl ?_|refine s_op ?_ ?_|exact trivial)|((with_reducible first|refine dw_reg0 ?_|refine dw_regB ?_);(conv=>arg 3;whnf))|(refine Spl.go (fun hq he=>?_) (fun hq he=>?_)<;>first|(exfalso;clear hq;omega)|((try first|(conv=>arg 8;simp only [hq])|(conv=>arg 4;simp only [hq]));clear hq))|((with_reducible first|refine c_split (fun hq=>?_) (fun hq=>?_)|refine q_split (fun hq=>?_) (fun hq=>?_))<;>(try first|(conv=>arg 8;simp only [hq])|(conv=>arg 4;simp only [hq])))|(with_reducible refine fin_0 ?_ (by first|rfl|(conv=>lhs;simp only [go_sem,intsD,List.map_cons,List.getElem?_map,k2,Option.map_some,List.length_map,hdr])) ?_)|exact Sub.refl _|omega)
   refine c_doesE (hix) ?_ ?_ ?_
   ·((try (conv=>rhs;simp (disch:=omega) only [go_sem,intsD,List.map_cons,List.getElem?_map,k2,Option.map_some,List.length_map,hst,hdr])); try rfl)
   ·first|rfl|(conv=>lhs;simp only [go_sem,intsD,List.map_cons,List.getElem?_map,k2,Option.map_some,List.length_map,hst,hdr])
   repeat' (first|with_reducible refine acc_none ?_ | (conv in hold _=>simp (disch:=omega) only [go_sem,intsD,List.map_cons,List.getElem?_map,k2,Option.map_some,List.length_map,hst,hdr])|refine Stp.go ?_|(with_reducible first|refine it_pos rfl ?_|refine it_neg (by decide) ?_|refine st_nil rfl ?_|refine s_op ?_ ?_|exact trivial)|((with_reducible first|refine dw_reg0 ?_|refine dw_regB ?_);(conv=>arg 3;whnf))|(refine Spl.go (fun hq he=>?_) (fun hq he=>?_)<;>first|(exfalso;clear hq;omega)|((try first|(conv=>arg 8;simp only [hq])|(conv=>arg 4;simp only [hq]));clear hq))|((with_reducible first|refine c_split (fun hq=>?_) (fun hq=>?_)|refine q_split (fun hq=>?_) (fun hq=>?_))<;>(try first|(conv=>arg 8;simp only [hq])|(conv=>arg 4;simp only [hq])))|exact Sub.refl _|omega)
   refine fin_wk (wk_frzO 2000006 3000001 (by decide) (by decide) rfl (by decide) rfl ?_) ?_
   rotate_left
   (conv in hold _=>simp (disch:=omega) only [go_sem,List.length_map,hsl,htk,Nat.le_refl,hst])
   ·refine fin_L [] ?_ ?_ rfl ?_
    repeat' (first|(conv in hold _=>simp (disch:=omega) only [go_sem])|exact trivial|exact Sub.refl _|omega)
   ·exact plans_pur _
theorem applyStep_ok {ws : List Int} (hw : wsOk ws) {p : Pl} {w : Int} (h : Wf ws p 8 w) (r : Int) (l : List Int) (hl : l.length < 2000000) : Does Tryz.prog 54 [] [pD p,intsD ws,stD r l] (paD (apP ws r l p)) []:=by
 have hs:=wf_size h
 rw [pw_8] at hs
 have h1:=planAt_ok p (by omega) l hl
 have hp:=wf_loc h (by decide)
 unfold stD
 unfold apP
 cases ha : paOf p l with
 | none=>
  rw [ha] at h1
  rw [Option.bind_none]
  unfold paD at h1 ⊢
  refine Bg c_Z112 mixed (go1 @intsD.eq_1 ?_)
  refine Uc @intsD.eq_1 (h1) (go1 @intsD.eq_1 ?_)
  exact zP_sub
 | some a=>
  rw [ha] at h1
  rw [Option.bind_some]
  obtain ⟨u,ed,hd,hu,_,_⟩:=rep_wf hw l h ha
  have h2:=rewrite_ok hw hu (by omega) r
  unfold paD at h1
  cases hq : ruP ws r a with
  | none=>
   rw [hq] at h2
   rw [Option.bind_none]
   unfold rsD at h2
   unfold paD
   refine Bg c_Z112 mixed (go1 @intsD.eq_1 ?_)
   refine Uc @intsD.eq_1 (h1) (go1 @intsD.eq_1 ?_)
   refine Uc @intsD.eq_1 (h2) (go1 @intsD.eq_1 ?_)
   exact zP_sub
  | some q=>
   rw [hq] at h2
   rw [Option.bind_some]
   unfold rsD at h2
   have hql:=ru_loc hw hu (by omega) hq
   have h3:=replaceAt_ok l q ha hp hql (by omega)
   obtain ⟨_,h4,_⟩:=width_loc hw (repP p l q) (rep_loc l ha hp hql) 8 (by decide)
   by_cases hz : wdV ws (repP p l q) 8 = 0
   ·rw [if_pos hz]
    rw [hz] at h4
    unfold paD
    generalize repP p l q = y at *
    refine Bg c_Z112 mixed (go1 @intsD.eq_1 ?_)
    refine Uc @intsD.eq_1 (h1) (go1 @intsD.eq_1 ?_)
    refine Uc @intsD.eq_1 (h2) (go1 @intsD.eq_1 ?_)
    refine Uc @intsD.eq_1 (h3) (go1 @intsD.eq_1 ?_)
    refine Uc trivial (h4) (go1 trivial ?_)
    exact zP_sub
   ·rw [if_neg hz]
    have hne : (wdV ws (repP p l q) 8 == 0) = false:=beq_eq_false_iff_ne.2 hz
    unfold paD
    generalize wdV ws (repP p l q) 8 = wv at *
    generalize repP p l q = y at *
    refine Bg c_Z112 mixed (go1 @intsD.eq_1 ?_)
    refine Uc @intsD.eq_1 (h1) (go1 @intsD.eq_1 ?_)
    refine Uc @intsD.eq_1 (h2) (go1 @intsD.eq_1 ?_)
    refine Uc @intsD.eq_1 (h3) (go1 @intsD.eq_1 ?_)
    exact Uc @hne (h4) (go0 @hne)
end Go.Proofs.YtgpdmgaemhelgaaGreat
set_option maxHeartbeats 4000000
set_option maxRecDepth 100000
set_option linter.unusedVariables false
set_option linter.unusedSimpArgs false
namespace Go.Proofs.YtgpdmgaemhelgaaGreat
open Go.RowKit
theorem paths_pur : ∀ l : List (List Int),D.purL (l.map intsD) = true
 | []=>rfl
 | a :: l=>by rw [List.map_cons,D.purL,paths_pur l]; rfl
theorem paths_ren (L : List Nat) (l : List (List Int)) : D.renL L (l.map intsD) = l.map intsD:=ren_pure.renL_pure L _ (paths_pur l)
attribute [go_sem] paths_pur paths_ren
def aheadK (p : Pl) (L : List (List Int)) (pre : List Int) (i : Nat) : List (List Int):=L ++ pre :: pathsL (p.ks.take i) pre 0
theorem ahead_0 (p : Pl) (L : List (List Int)) (pre : List Int) : aheadK p L pre 0 = L ++ [pre]:=by unfold aheadK; rw [List.take_zero,pathsL]
theorem ahead_next {p x : Pl} {L : List (List Int)} {pre : List Int} {i : Nat} (h : p.ks[i]? = some x) : aheadK p L pre (i + 1) = aheadK p L pre i ++ pathsP x (pre ++ [(i : Int)]):=by
 unfold aheadK
 rw [pathsL_next h,List.append_assoc,List.cons_append]
theorem ahead_end (p : Pl) (L : List (List Int)) (pre : List Int) : aheadK p L pre p.ks.length = L ++ pathsP p pre:=by
 unfold aheadK
 rw [List.take_length,pathsP_eq]
theorem ahead_len (p : Pl) (L : List (List Int)) (pre : List Int) (i : Nat) : (aheadK p L pre i).length ≤ L.length + (1 + psz p):=by
 have h1:=pathsL_len (p.ks.take i) pre 0
 have h2 : pszL (p.ks.take i) ≤ pszL p.ks:=by
  have:=pszL_append (p.ks.take i) (p.ks.drop i)
  rw [List.take_append_drop] at this
  omega
 unfold aheadK
 rw [List.length_append,List.length_cons,psz_eq p]
 omega
theorem ahead_kid {p x : Pl} (L : List (List Int)) (pre : List Int) {i : Nat} (h : p.ks[i]? = some x) : (aheadK p L pre i).length + psz x ≤ L.length + psz p:=by
 have h1:=pathsL_len (p.ks.take i) pre 0
 have h2:=pszL_next h
 have h3 : pszL (p.ks.take (i + 1)) ≤ pszL p.ks:=by
  have:=pszL_append (p.ks.take (i + 1)) (p.ks.drop (i + 1))
  rw [List.take_append_drop] at this
  omega
 unfold aheadK
 rw [List.length_append,List.length_cons,psz_eq p]
 omega
theorem addPaths_ok : ∀ (p : Pl),psz p ≤ 600000 → ∀ (L : List (List Int)) (pre : List Int),pre.length + psz p ≤ 900000 → L.length + psz p ≤ 900000 → Does Tryz.prog 109 [.row 1 (L.map intsD)] [.own 1000000 1 L.length,pD p,intsD pre] (.own 1000001 1 (L ++ pathsP p pre).length) [.any,.row 1 ((L ++ pathsP p pre).map intsD)]:=by
 refine Pl.indA (fun p ih hs L pre hpre hL=>?_)
 have hps:=psz_eq p
 have hlk:=pszL_len p.ks
 have t0:=take_all intsD L
 have tp:=take_all I pre
 have hal:=ahead_len p L pre
 have hkd:=fun (i : Nat) (x : Pl) (hx : p.ks[i]? = some x)=>ahead_kid L pre hx
 have ha0:=ahead_0 p L pre
 have hae:=ahead_end p L pre
 have han:=fun (i : Nat) (x : Pl) (hx : p.ks[i]? = some x)=>ahead_next (L:=L) (pre:=pre) hx
 rw [← hae]
 generalize aheadK p L pre = K at *
 have h0l : (K 0).length = L.length + 1:=by rw [ha0,List.length_append]; rfl
 have h0m : L.map intsD ++ [D.sl 1 (pre.map I)] = (K 0).map intsD:=by rw [ha0,List.map_append]; rfl
 have hpl : (pre.map I).length = pre.length:=List.length_map ..
 refine does c_Z133 mixed (Nat.le_of_ble_eq_true rfl) 1 rfl ?_
 conv=>arg 3; whnf
 repeat' ((fail_if_success (with_reducible first | refine s_mkb ?_ | refine s_mkd ?_)); first | with_reducible refine acc_none ?_ | (conv in hold _=>simp (disch:=omega) only [go_sem,intsD])|refine Stp.go ?_|(with_reducible first|refine it_pos rfl ?_|refine it_neg (by decide) ?_|refine st_nil rfl ?_|refine s_op ?_ ?_|exact trivial)|((with_reducible first|refine dw_reg0 ?_|refine dw_regB ?_);(conv=>arg 3;whnf))|(refine Spl.go (fun hq he=>?_) (fun hq he=>?_)<;>first|(exfalso;clear hq;omega)|((try first|(conv=>arg 8;simp only [hq])|(conv=>arg 4;simp only [hq]));clear hq))|((with_reducible first|refine c_split (fun hq=>?_) (fun hq=>?_)|refine q_split (fun hq=>?_) (fun hq=>?_))<;>(try first|(conv=>arg 8;simp only [hq])|(conv=>arg 4;simp only [hq])))|(with_reducible refine fin_0 ?_ (by first|rfl|(conv=>lhs;simp only [go_sem,intsD])) ?_)|exact Sub.refl _|omega)
 refine s_pre (pre_frz (t:=11) (g:=2000011) (by decide) (by decide) rfl ?_) ?_
 rotate_left
 refine go1 (cj2 @tp @hpl) ?_
 ·refine dw_for (c:=3) (l:=fun i=>[(0,.own 1000001 1 (K i).length),(2,intsD pre),(4,.ref 1000002 0),(6,.nul),(7,I i),(1000000,.any),(1000001,.row 1 ((K i).map intsD)),(1000002,.obj [I p.k,I p.t,.sl 5 (p.es.map eD),intsD p.cs,.sl 5 (p.ks.map pD)])]) p.ks.length (fun _=>True) 0 trivial (Wk.list [1000000,2000013,2000004] rfl rfl ?_) (fun i hi _=>?_) (Nat.zero_le _)
  ·repeat' (first|(conv in hold _=>simp (disch:=omega) only [go_sem,t0,h0m,h0l,List.length_map])|exact trivial|exact Sub.refl _|omega)
   (repeat' apply And.intro) <;> first | rfl | (rw [h0l]) | (rw [h0m])
  ·rcases at_or_end hi with ⟨x,hx0,hlt⟩ | rfl
   ·have hxs:=pszL_mem (List.mem_of_getElem? hx0)
    have hki:=hkd i x hx0
    have hpi : (pre.map I) ++ [I (i : Int)] = (pre ++ [(i : Int)]).map I:=by rw [List.map_append]; rfl
    have hpil : ((pre ++ [(i : Int)]).map I).length = pre.length + 1:=by rw [List.length_map,List.length_append]; rfl
    have tpi : ((pre ++ [(i : Int)]).map I).take (pre.length + 1) = (pre ++ [(i : Int)]).map I:=List.take_of_length_le (by omega)
    have hix:=ih x (List.mem_of_getElem? hx0) (by omega) (K i) (pre ++ [(i : Int)]) (by rw [List.length_append,List.length_singleton]; omega) (by omega)
    rw [← han i x hx0] at hix
    rw [show intsD (pre ++ [(i : Int)]) = D.sl 1 ((pre ++ [(i : Int)]).map I) from rfl] at hix
    refine go1C (cj4 @hx0 @tp @intsD.eq_1 @hpl) ?_
    refine s_pre (pre_frz (t:=32) (g:=2000032) (by decide) (by decide) rfl ?_) ?_
    rotate_left
    refine go1 (cj5 @tp @hpl @hpi @hpil @tpi) ?_
    ·refine UcR [1000001,3000001] (cj5 @tp @hpl @hpi @hpil @tpi) (hix) (go1 (cj5 @tp @hpl @hpi @hpil @tpi) ?_)
     refine ⟨hlt,trivial,Wk.list [1000000,3000001,1000002] rfl rfl ?_⟩
     exact Ag @intsD.eq_1
    ·rw [hpi]; exact ints_pur _
   ·refine go1 trivial ?_
    refine fin_L [1000000,1000001] ?_ ?_ rfl ?_
    all_goals exact Ag trivial
 ·exact ints_pur _
theorem addPaths_top (p : Pl) (hs : psz p ≤ 600000) : Does Tryz.prog 109 [] [.nul,pD p,intsD []] (.own 1000000 1 (pathsP p []).length) [.row 1 ((pathsP p []).map intsD)]:=by
 have hps:=psz_eq p
 have hlk:=pszL_len p.ks
 have hal:=ahead_len p [] []
 have hkd:=fun (i : Nat) (x : Pl) (hx : p.ks[i]? = some x)=>ahead_kid [] [] hx
 have ha0:=ahead_0 p [] []
 have hae:=ahead_end p [] []
 have han:=fun (i : Nat) (x : Pl) (hx : p.ks[i]? = some x)=>ahead_next (L:=[]) (pre:=[]) hx
 rw [List.nil_append] at ha0 hae
 rw [← hae]
 generalize aheadK p [] [] = K at *
 have h0l : (K 0).length = 1:=by rw [ha0]; rfl
 have h0m : [D.sl 1 []] = (K 0).map intsD:=by rw [ha0]; rfl
 refine does c_Z133 mixed (Nat.le_of_ble_eq_true rfl) 0 rfl ?_
 conv=>arg 3; whnf
 repeat' ((fail_if_success (with_reducible first | refine s_mkb ?_ | refine s_mkd ?_)); first | with_reducible refine acc_none ?_ | (conv in hold _=>simp (disch:=omega) only [go_sem,intsD,List.map_nil,List.length_nil])|refine Stp.go ?_|(with_reducible first|refine it_pos rfl ?_|refine it_neg (by decide) ?_|refine st_nil rfl ?_|refine s_op ?_ ?_|exact trivial)|((with_reducible first|refine dw_reg0 ?_|refine dw_regB ?_);(conv=>arg 3;whnf))|(refine Spl.go (fun hq he=>?_) (fun hq he=>?_)<;>first|(exfalso;clear hq;omega)|((try first|(conv=>arg 8;simp only [hq])|(conv=>arg 4;simp only [hq]));clear hq))|((with_reducible first|refine c_split (fun hq=>?_) (fun hq=>?_)|refine q_split (fun hq=>?_) (fun hq=>?_))<;>(try first|(conv=>arg 8;simp only [hq])|(conv=>arg 4;simp only [hq])))|(with_reducible refine fin_0 ?_ (by first|rfl|(conv=>lhs;simp only [go_sem,intsD,List.map_nil,List.length_nil])) ?_)|exact Sub.refl _|omega)
 refine s_pre (pre_frz (t:=11) (g:=2000011) (by decide) (by decide) rfl ?_) ?_
 rotate_left
 repeat' (first|with_reducible refine acc_none ?_ | (conv in hold _=>simp (disch:=omega) only [go_sem,List.length_nil,Nat.le_refl])|refine Stp.go ?_|(with_reducible first|refine it_pos rfl ?_|refine it_neg (by decide) ?_|refine st_nil rfl ?_|refine s_op ?_ ?_|exact trivial)|((with_reducible first|refine dw_reg0 ?_|refine dw_regB ?_);(conv=>arg 3;whnf))|(refine Spl.go (fun hq he=>?_) (fun hq he=>?_)<;>first|(exfalso;clear hq;omega)|((try first|(conv=>arg 8;simp only [hq])|(conv=>arg 4;simp only [hq]));clear hq))|((with_reducible first|refine c_split (fun hq=>?_) (fun hq=>?_)|refine q_split (fun hq=>?_) (fun hq=>?_))<;>(try first|(conv=>arg 8;simp only [hq])|(conv=>arg 4;simp only [hq])))|(with_reducible refine fin_0 ?_ (by first|rfl|(conv=>lhs;simp only [go_sem,List.length_nil,Nat.le_refl])) ?_)|exact Sub.refl _|omega)
 ·refine dw_for (c:=2) (l:=fun i=>[(0,.own 1000000 1 (K i).length),(2,intsD []),(4,.ref 1000001 0),(6,.nul),(7,I i),(1000000,.row 1 ((K i).map intsD)),(1000001,.obj [I p.k,I p.t,.sl 5 (p.es.map eD),intsD p.cs,.sl 5 (p.ks.map pD)])]) p.ks.length (fun _=>True) 0 trivial (Wk.list [2000013,2000004] rfl rfl ?_) (fun i hi _=>?_) (Nat.zero_le _)
  ·repeat' (first|(conv in hold _=>simp (disch:=omega) only [go_sem,h0m,h0l,List.length_map])|exact trivial|exact Sub.refl _|omega)
   (repeat' apply And.intro) <;> first | rfl | (rw [h0l]) | (rw [← h0m]; rfl)
  ·rcases at_or_end hi with ⟨x,hx0,hlt⟩ | rfl
   ·have hxs:=pszL_mem (List.mem_of_getElem? hx0)
    have hki:=hkd i x hx0
    have hix:=addPaths_ok x (by omega) (K i) ([] ++ [(i : Int)]) (by rw [List.length_append,List.length_singleton]; simp; omega) (by simp at hki; omega)
    rw [← han i x hx0] at hix
    rw [show intsD ([] ++ [(i : Int)]) = D.sl 1 [I (i : Int)] from rfl] at hix
    refine go1C (cj2 @hx0 @intsD.eq_1) ?_
    refine s_pre (pre_frz (t:=32) (g:=2000032) (by decide) (by decide) rfl ?_) ?_
    rotate_left
    refine go1 trivial ?_
    ·refine UcR [1000000,3000001] trivial (hix) (go1 trivial ?_)
     refine ⟨hlt,trivial,Wk.list [3000001,1000001] rfl rfl ?_⟩
     exact Ag @intsD.eq_1
    ·rfl
   ·refine go1 trivial ?_
    refine fin_L [1000000] ?_ ?_ rfl ?_
    all_goals exact Ag trivial
 ·rfl
def stE (s : Int × List Int) : D:=stD s.1 s.2
theorem stE_pur : ∀ l : List (Int × List Int),D.purL (l.map stE) = true
 | []=>rfl
 | a :: l=>by rw [List.map_cons,D.purL,stE_pur l]; rfl
theorem stE_ren (L : List Nat) (l : List (Int × List Int)) : D.renL L (l.map stE) = l.map stE:=ren_pure.renL_pure L _ (stE_pur l)
attribute [go_sem] stE_pur stE_ren
theorem stepsFor_ok {ws : List Int} (hw : wsOk ws) {p : Pl} {w : Int} (h : Wf ws p 8 w) : Does Tryz.prog 60 [] [pD p,intsD ws] (.sl 2 ((stepsP ws p).map stE)) []:=by
 have hs:=wf_size h
 rw [pw_8] at hs
 have hap:=(addPaths_top p (by omega)).weak (es:=[.nul,pD p,.nul]) ⟨Sub.refl _,Sub.refl _,Sub.nul 1,trivial⟩ (Sub.refl _)
 have hpl:=pathsP_len p []
 have hshort : ∀ l,l ∈ pathsP p [] → l.length ≤ 8:=fun l hl=>by have:=pathsP_short h [] l hl; simpa using this
 unfold stepsP
 generalize pathsP p [] = ls at *
 have htot:=stepsTo_len ws p ls
 have htl:=fun i=>stepsTo_len ws p (ls.take i)
 refine Bg c_Z142 mixed (go1 trivial ?_)
 refine UcR [3000001] trivial (hap) (go1 trivial ?_)
 refine dw_for (c:=3) (l:=fun i=>[(1,intsD ws),(2,.ref 1000000 0),(4,.nul),(5,.own 1000001 2 (stepsTo ws p (ls.take i)).length),(6,.own 1000002 1 ls.length),(7,I i),(1000000,.obj [I p.k,I p.t,.sl 5 (p.es.map eD),intsD p.cs,.sl 5 (p.ks.map pD)]),(1000001,.row 2 ((stepsTo ws p (ls.take i)).map stE)),(1000002,.row 1 (ls.map intsD))]) ls.length (fun _=>True) 0 trivial ((wk_row 5 2000190 2 (by decide) (by decide) rfl rfl).trans (Wk.list [2000002,2000190,3000001] rfl rfl ?_)) (fun i hi _=>?_) (Nat.zero_le _)
 ·repeat' (first|(conv in hold _=>simp (disch:=omega) only [go_sem])|exact trivial|exact Sub.refl _|omega)
  (repeat' apply And.intro) <;> rfl
 ·have hlen:=htl i
  rw [List.length_take] at hlen
  rcases at_or_end hi with ⟨l,hl0,hlt⟩ | rfl
  ·have hl8:=hshort l (List.mem_of_getElem? hl0)
   have hnx:=stepsTo_next (ws:=ws) (p:=p) hl0
   have htl0:=take_all I l
   have hll : (l.map I).length = l.length:=List.length_map ..
   refine go1 trivial ?_
   refine dw_for (c:=3) (l:=fun n=>[(1,intsD ws),(2,.ref 1000000 0),(4,.nul),(5,.own 1000001 2 (stepsTo ws p (ls.take i) ++ stepsAt ws p l n).length),(6,.own 1000002 1 ls.length),(7,I i),(8,I ((n : Int) + 1)),(1000000,.obj [I p.k,I p.t,.sl 5 (p.es.map eD),intsD p.cs,.sl 5 (p.ks.map pD)]),(1000001,.row 2 ((stepsTo ws p (ls.take i) ++ stepsAt ws p l n).map stE)),(1000002,.row 1 (ls.map intsD))]) 11 (fun _=>True) 0 trivial (Wk.list [1000000,1000001,1000002] rfl rfl ?_) (fun n hn _=>?_) (Nat.zero_le _)
   ·repeat' (first|(conv in hold _=>simp (disch:=omega) only [go_sem,stepsAt,List.append_nil])|exact trivial|exact Sub.refl _|omega)
    (repeat' apply And.intro) <;> rfl
   ·by_cases hn11 : n < 11
    ·have hat:=stepsAt_len ws p l n
     have hst:=applyStep_ok hw h ((n : Int) + 1) l (by omega)
     have hS : stepsAt ws p l (n + 1) = stepsAt ws p l n ++ if (apP ws ((n : Int) + 1) l p).isSome = true then [((n : Int) + 1,l)] else []:=rfl
     have hta:=take_all stE (stepsTo ws p (ls.take i) ++ stepsAt ws p l n)
     have htn : (stepsTo ws p (ls.take i) ++ stepsAt ws p l n).length = (stepsTo ws p (ls.take i)).length + (stepsAt ws p l n).length:=List.length_append
     unfold stD at hst
     cases ho : apP ws ((n : Int) + 1) l p with
     | none=>
      rw [ho] at hS hst
      have hS : stepsAt ws p l (n + 1) = stepsAt ws p l n:=by rw [hS]; exact List.append_nil _
      unfold paD at hst
      rw [hS]
      generalize stepsTo ws p (ls.take i) ++ stepsAt ws p l n = T at *
      repeat' ((fail_if_success (with_reducible first | refine s_mkb ?_ | refine s_mkd ?_)); first | with_reducible refine acc_none ?_ | (conv in hold _=>simp (disch:=omega) only [go_sem,List.getElem?_map,hl0,Option.map_some,intsD,htl0,hll])|refine Stp.go ?_|(with_reducible first|refine it_pos rfl ?_|refine it_neg (by decide) ?_|refine st_nil rfl ?_|refine s_op ?_ ?_|exact trivial)|((with_reducible first|refine dw_reg0 ?_|refine dw_regB ?_);(conv=>arg 3;whnf))|(refine Spl.go (fun hq he=>?_) (fun hq he=>?_)<;>first|(exfalso;clear hq;omega)|((try first|(conv=>arg 8;simp only [hq])|(conv=>arg 4;simp only [hq]));clear hq))|((with_reducible first|refine c_split (fun hq=>?_) (fun hq=>?_)|refine q_split (fun hq=>?_) (fun hq=>?_))<;>(try first|(conv=>arg 8;simp only [hq])|(conv=>arg 4;simp only [hq])))|(with_reducible refine fin_0 ?_ (by first|rfl|(conv=>lhs;simp only [go_sem,List.getElem?_map,hl0,Option.map_some,intsD,htl0,hll])) ?_)|exact Sub.refl _|omega)
      refine s_pre (pre_frz (t:=33) (g:=2000033) (by decide) (by decide) rfl ?_) ?_
      rotate_left
      refine go1 (cj2 @htl0 @hll) ?_
      ·refine Uc (cj3 @intsD.eq_1 @htl0 @hll) (hst) (go1 (cj3 @intsD.eq_1 @htl0 @hll) ?_)
       refine ⟨hn11,trivial,Wk.list [1000000,1000001,1000002] rfl rfl ?_⟩
       exact Ag trivial
      ·exact ints_pur _
     | some q=>
      rw [ho] at hS hst
      have hS : stepsAt ws p l (n + 1) = stepsAt ws p l n ++ [((n : Int) + 1,l)]:=hS
      unfold paD at hst
      have hT : stepsTo ws p (ls.take i) ++ stepsAt ws p l (n + 1) = (stepsTo ws p (ls.take i) ++ stepsAt ws p l n) ++ [((n : Int) + 1,l)]:=by rw [hS,List.append_assoc]
      rw [hT]
      generalize stepsTo ws p (ls.take i) ++ stepsAt ws p l n = T at *
      repeat' ((fail_if_success (with_reducible first | refine s_mkb ?_ | refine s_mkd ?_)); first | with_reducible refine acc_none ?_ | (conv in hold _=>simp (disch:=omega) only [go_sem,List.getElem?_map,hl0,Option.map_some,intsD,htl0,hll])|refine Stp.go ?_|(with_reducible first|refine it_pos rfl ?_|refine it_neg (by decide) ?_|refine st_nil rfl ?_|refine s_op ?_ ?_|exact trivial)|((with_reducible first|refine dw_reg0 ?_|refine dw_regB ?_);(conv=>arg 3;whnf))|(refine Spl.go (fun hq he=>?_) (fun hq he=>?_)<;>first|(exfalso;clear hq;omega)|((try first|(conv=>arg 8;simp only [hq])|(conv=>arg 4;simp only [hq]));clear hq))|((with_reducible first|refine c_split (fun hq=>?_) (fun hq=>?_)|refine q_split (fun hq=>?_) (fun hq=>?_))<;>(try first|(conv=>arg 8;simp only [hq])|(conv=>arg 4;simp only [hq])))|(with_reducible refine fin_0 ?_ (by first|rfl|(conv=>lhs;simp only [go_sem,List.getElem?_map,hl0,Option.map_some,intsD,htl0,hll])) ?_)|exact Sub.refl _|omega)
      refine s_pre (pre_frz (t:=33) (g:=2000033) (by decide) (by decide) rfl ?_) ?_
      rotate_left
      refine go1 (cj2 @htl0 @hll) ?_
      ·refine Uc (cj4 @intsD.eq_1 @htl0 @hll @hta) (hst) (go1 (cj4 @intsD.eq_1 @htl0 @hll @hta) ?_)
       refine ⟨hn11,trivial,Wk.list [1000000,2000046,1000002] rfl rfl ?_⟩
       repeat' (first|(conv in hold _=>simp (disch:=omega) only [go_sem,List.length_append,List.length_map,hta])|exact trivial|exact Sub.refl _|omega)
       rw [List.map_append]
       rfl
      ·exact ints_pur _
    ·obtain rfl : n = 11:=by omega
     rw [← hnx]
     refine go1 trivial ?_
     refine ⟨hlt,trivial,Wk.list [1000000,1000001,1000002] rfl rfl ?_⟩
     exact Ag trivial
  ·have e1 : ls.take ls.length = ls:=List.take_length
   have hta:=take_all stE (stepsTo ws p ls)
   rw [e1]
   generalize stepsTo ws p ls = T at *
   refine go1F trivial ?_
   refine fin_wk (wk_frz 4 1000001 (by decide) (by decide) rfl ?_) ?_
   rotate_left
   (conv in hold _=>simp (disch:=omega) only [go_sem,hta,List.length_map,Nat.le_refl])
   ·refine fin_L [] ?_ ?_ rfl ?_
    all_goals exact Ag trivial
   ·exact stE_pur _
noncomputable def stpO (ws : List Int) (p : Pl) : List (Int × List Int):=if PV ws p = 0 then [] else stepsP ws p
theorem stpO_len {ws : List Int} {p : Pl} (hs : psz p ≤ 1048576) : (stpO ws p).length ≤ 20000000:=by
 unfold stpO
 split
 ·exact Nat.zero_le _
 ·have h1:=stepsTo_len ws p (pathsP p [])
  have h2:=pathsP_len p []
  unfold stepsP
  omega
end Go.Proofs.YtgpdmgaemhelgaaGreat
