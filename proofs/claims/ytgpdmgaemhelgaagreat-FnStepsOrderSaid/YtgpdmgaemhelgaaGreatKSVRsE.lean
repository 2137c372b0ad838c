/-
  The model's rewriting of any part, of a plan at a path, and ApplyStep. No condition.
-/
import Derived.Test.YtgpdmgaemhelgaaGreatKSDca
import Derived.Test.YtgpdmgaemhelgaaGreatKSDcf
import Derived.Test.YtgpdmgaemhelgaaGreatKSDcg
import Derived.Test.YtgpdmgaemhelgaaGreatJSVRiE
import Derived.Test.YtgpdmgaemhelgaaGreatJSVYld
set_option maxHeartbeats 4000000
set_option maxRecDepth 100000
set_option linter.unusedVariables false
set_option linter.unusedSimpArgs false
set_option linter.unusedSectionVars false
namespace Go.Proofs.YtgpdmgaemhelgaaGreat
open Go.RowKit
theorem onePl {cs : List D} {p : Pl} (h : SubL cs [I p.k,I p.t,.sl 5 (p.es.map eD),intsD p.cs,.sl 5 (p.ks.map pD)]) : Sub (.sl 5 [.agg cs]) (.sl 5 [pD p]):=by
 rw [pD_eq]
 refine Sub.sl rfl (fun e he=>by rw [List.mem_singleton.1 he]; rfl) ?_
 have e1 : ∀ l : List D,D.flat [.agg l] = l:=fun l=>by unfold D.flat; rw [List.flatMap_cons,List.flatMap_nil,List.append_nil]; rfl
 rw [e1,e1]
 exact h
section
variable {ws : List Int} (hw : wsOk ws)
include hw
theorem rw6 {e : E} {x y : Pl} {a b : Int} {d : Nat} (hx : Wf ws x d a) (hy : Wf ws y d b) (hab : a + b ≤ 6) (he : eOk e (a + b) 8) (hd : d ≤ 8) : Does Tryz.prog 97 [] [pD (.mk 4 0 [e] [] [x,y]),I 6,intsD ws] (.tup [pD (.mk 3 0 (byB a b) [] [.mk 4 0 [subE (byB a b) e] [] [y,x]]),Bo true]) []:=by
 have ha:=(wf_to hw hx).2
 have hb:=(wf_to hw hy).2
 have hx:=(planW hw hx hd).1
 have hy:=(planW hw hy hd).1
 have hbl : (byB a b).length = a.toNat + b.toNat:=by unfold byB; rw [List.length_append,colF_len,colF_len]
 have hsub:=substitute_ok (byB a b) (fun x hx=>by rw [esz_byB hx]; decide) e 8 (by rw [hbl]; rw [show (((a.toNat + b.toNat : Nat)) : Int) = a + b by omega]; exact he)
 obtain ⟨na,rfl⟩:=Int.eq_ofNat_of_zero_le (show 0 ≤ a by omega)
 obtain ⟨nb',rfl⟩:=Int.eq_ofNat_of_zero_le (show 0 ≤ b by omega)
 have hc1:=columnsFrom_own nb' na (by omega) (by omega)
 have hc2:=columnsFrom_own 0 nb' (by omega) (by omega)
 have t1:=take_all cD (ciL nb' na)
 have t2:=take_all cD (ciL 0 nb')
 rw [ciL_len] at t1 t2
 have hby : (ciL nb' na).map cD ++ (ciL 0 nb').map cD = (ciL nb' na ++ ciL 0 nb').map cD:=(List.map_append ..).symm
 have hl1 : ((ciL nb' na).map cD).length = na:=by rw [List.length_map,ciL_len]
 have hl2 : ((ciL 0 nb').map cD).length = nb':=by rw [List.length_map,ciL_len]
 have hl3 : ((ciL nb' na ++ ciL 0 nb').map cD).length = na + nb':=by rw [List.length_map,List.length_append,ciL_len,ciL_len]
 have t3 : ((ciL nb' na ++ ciL 0 nb').map cD).take (na + nb') = (ciL nb' na ++ ciL 0 nb').map cD:=List.take_of_length_le (by omega)
 have hbe : byB (na : Int) (nb' : Int) = (ciL nb' na ++ ciL 0 nb').map (fun c=>E.mk 1 c ⟨false,0⟩ []):=by
  rw [List.map_append,← colF_ci,← colF_ci]
  rfl
 have hcs : Sub (.sl 5 ((ciL nb' na ++ ciL 0 nb').map cD)) (.sl 5 ((byB (na : Int) (nb' : Int)).map eD)):=by
  rw [hbe]
  exact cD_sub _
 have hsub:=hsub.weak (es:=[eD e,.sl 5 ((ciL nb' na ++ ciL 0 nb').map cD)]) ⟨Sub.refl _,hcs,trivial⟩ (Sub.refl _)
 have hend : Sub (.tup [.agg [I 3,I 0,.sl 5 ((ciL nb' na ++ ciL 0 nb').map cD),.nul,.sl 5 [.agg [I 4,I 0,.sl 5 [eD (subE (byB na nb') e)],.nul,.sl 5 [pD y,pD x]]]],Bo true]) (.tup [pD (.mk 3 0 (byB na nb') [] [.mk 4 0 [subE (byB na nb') e] [] [y,x]]),Bo true]):=by
  refine Sub.tup ⟨plS (k:=3) (t:=0) (cs:=[]) (ks:=[.mk 4 0 [subE (byB na nb') e] [] [y,x]]) hcs (Sub.nul 1) ?_,Sub.refl _,trivial⟩
  exact onePl (p:=.mk 4 0 [subE (byB na nb') e] [] [y,x]) ⟨Sub.refl _,Sub.refl _,Sub.refl _,Sub.nul 1,Sub.refl _,trivial⟩
 generalize subE (byB (na : Int) (nb' : Int)) e = e2 at *
 have hrp : (pD (.mk 3 0 (byB (na : Int) (nb' : Int)) [] [.mk 4 0 [e2] [] [y,x]])).pur = true:=by rw [pD_eq]; rfl
 generalize pD (.mk 3 0 (byB (na : Int) (nb' : Int)) [] [.mk 4 0 [e2] [] [y,x]]) = rr at *
 simp only [go_sem] at hend
 refine Bg c_Z139 mixed (go1 trivial ?_)
 refine Uc trivial (hx) (go1 trivial ?_)
 refine Uc trivial (hy) (go1 trivial ?_)
 refine UcR [3000001] trivial (hc1) (go1 trivial ?_)
 refine UcR [3000002] (cj5 @t1 @t2 @hby @hl1 @hl2) (hc2) (go1C (cj5 @t1 @t2 @hby @hl1 @hl2) ?_)
 refine s_pre (pre_frz2 (t:=54) (u:=10) (g:=2000049) (by decide) (by decide) (by decide) rfl ?_) ?_
 rotate_left
 refine go1 (cj7 @t1 @t2 @hby @t3 @hl1 @hl2 @hl3) ?_
 ·exact Uc (cj5 @t1 @t2 @hby @t3 @hrp) (hsub) (go0 (cj5 @t1 @t2 @hby @t3 @hrp))
  all_goals exact hend
 ·exact cD_pur _
theorem rewrite_ok {p : Pl} {d : Nat} {w : Int} (h : Wf ws p d w) (hd : d ≤ 8) (r : Int) : Does Tryz.prog 97 [] [pD p,I r,intsD ws] (rsD p (ruP ws r p)) []:=by
 by_cases h2 : p.k = 2
 ·obtain ⟨e,k,f,rfl,rfl,h1,he⟩:=wf_2 h h2
  have hr:=rf_ok hw h1 he hd r
  generalize hq : ruP ws r (.mk 2 0 [e] [] [k]) = o at *
  cases o with
  | none=>
   unfold rsD at hr ⊢
   refine Bg c_Z139 mixed (go1 trivial ?_)
   exact Uc trivial (hr) (go0 trivial)
  | some q=>
   unfold rsD at hr ⊢
   refine Bg c_Z139 mixed (go1 trivial ?_)
   exact Uc trivial (hr) (go0 trivial)
 by_cases h6 : r = 6 ∧ p.k = 4
 ·obtain ⟨rfl,hk⟩:=h6
  obtain ⟨e,x,y,f,a,b,hp,rfl,rfl,hx,hy,hab,he⟩:=wf_45 h (.inl hk)
  rw [hk] at hp
  subst hp
  have hwx:=(planW hw hx (by omega)).2
  have hwy:=(planW hw hy (by omega)).2
  have hr : ruP ws 6 (.mk 4 0 [e] [] [x,y]) = some (.mk 3 0 (byB a b) [] [.mk 4 0 [subE (byB a b) e] [] [y,x]]):=by
   rw [show ruP ws 6 (.mk 4 0 [e] [] [x,y]) = ru6 ws (.mk 4 0 [e] [] [x,y]) from rfl]
   unfold ru6
   rw [if_pos (show (Pl.mk 4 0 [e] [] [x,y]).k = 4 from rfl)]
   simp only [prP,eOf_mk,kOf_mk,lOf_mk,hwx,hwy]
  rw [hr]
  exact rw6 hw hx hy hab he (by omega)
 by_cases h9 : r = 9 ∧ p.k = 7
 ·obtain ⟨rfl,hk⟩:=h9
  obtain ⟨q,f,rfl,rfl,hq⟩:=wf_7 h hk
  have hr : ruP ws 9 (.mk 7 0 [] [] [q]) = if q.k = 7 ∨ q.k = 8 then some q else none:=by
   rw [show ruP ws 9 (.mk 7 0 [] [] [q]) = ru9 (.mk 7 0 [] [] [q]) from rfl]
   unfold ru9
   by_cases hc : q.k = 7 ∨ q.k = 8
   ·rw [if_pos ⟨rfl,hc⟩,if_pos hc]; rfl
   ·rw [if_neg (fun g=>hc g.2),if_neg hc]
  rw [hr,rsD_ite]
  exact rw9 hw
 by_cases h11 : r = 11 ∧ p.k = 3
 ·obtain ⟨rfl,hk⟩:=h11
  obtain ⟨es,q,f,v,rfl,rfl,rfl,h1,hl,hes⟩:=wf_3 h hk
  by_cases hq3 : q.k = 3
  ·obtain ⟨fs,x,f,v2,rfl,rfl,rfl,hx,hl2,hfs⟩:=wf_3 h1 hq3
   rw [show ruP ws 11 (.mk 3 0 es [] [.mk 3 0 fs [] [x]]) = ru11 (.mk 3 0 es [] [.mk 3 0 fs [] [x]]) from rfl,show ru11 (.mk 3 0 es [] [.mk 3 0 fs [] [x]]) = some (.mk 3 0 (es.map (subE fs)) [] [x]) from if_pos ⟨rfl,rfl⟩]
   exact rw11 hw hl.2 hes hfs
  ·rw [show ruP ws 11 (.mk 3 0 es [] [q]) = ru11 (.mk 3 0 es [] [q]) from rfl,show ru11 (.mk 3 0 es [] [q]) = none from if_neg (fun g=>hq3 g.2)]
   unfold rsD
   exact Bg c_Z139 mixed (go0 trivial)
 have hn : ruP ws r p = none:=by
  unfold ruP
  split; · exact if_neg (fun g=>h2 g.1)
  split; · exact if_neg (fun g=>h2 g.1)
  split; · exact if_neg (fun g=>h2 g.1)
  split; · exact if_neg (fun g=>h2 g.1)
  split; · exact if_neg (fun g=>h2 g.1)
  split
  ·rename_i g0; exact if_neg (fun g=>h6 ⟨g0,g⟩)
  split; · exact if_neg (fun g=>h2 g.1)
  split; · exact if_neg (fun g=>h2 g.1)
  split
  ·rename_i g0; exact if_neg (fun g=>h9 ⟨g0,g.1⟩)
  split; · exact if_neg (fun g=>h2 g.1)
  split
  ·rename_i g0; exact if_neg (fun g=>h11 ⟨g0,g.1⟩)
  rfl
 rw [hn]
 exact rw_no hw r h2 (fun g0 g=>h6 ⟨g0,g⟩) (fun g0 g=>h9 ⟨g0,g⟩) (fun g0 g=>h11 ⟨g0,g⟩)
end
theorem replaceAt_ok : ∀ (l : List Int) {p a : Pl} (q : Pl),paOf p l = some a → Loc p → Loc q → l.length < 1000 → Does Tryz.prog 98 [] [pD p,intsD l,pD q] (pD (repP p l q)) []:=by
 intro l
 induction l with
 | nil=>
  intro p a q _ _ hq _
  have hc:=copyPlan_loc q hq
  rw [show repP p [] q = q from rfl]
  refine Bg c_Z105 mixed (go1 @intsD.eq_1 ?_)
  exact Uc trivial (hc) (go0 trivial)
 | cons i l ih=>
  intro p a q ha hp hq hll
  rw [paOf] at ha
  cases hk : kidAt p i with
  | none=>rw [hk] at ha; cases ha
  | some x=>
   rw [hk] at ha
   obtain ⟨k0,k1,k2⟩:=kidAt_some hk
   obtain ⟨l1,l2,l3,l4,l5⟩:=hp.own
   have hix:=ih q (show paOf x l = some a from ha) (l5 x (List.mem_of_getElem? k2)) hq (by simp at hll; omega)
   have hcl:=copyPlan_kids p hp (by omega)
   have h2 : p.ks.getD i.toNat zP = x:=by rw [List.getD_eq_getElem?_getD,k2]; rfl
   rw [rep_cons,h2]
   generalize repP x l q = y at *
   have hst : (p.ks.map pD).set i.toNat (pD y) = (p.ks.set i.toNat y).map pD:=by rw [List.map_set]
   rw [pD_eq y,intsD] at hst
   have hsl : (p.ks.set i.toNat y).length = p.ks.length:=List.length_set
   have htk : ((p.ks.set i.toNat y).map pD).take p.ks.length = (p.ks.set i.toNat y).map pD:=List.take_of_length_le (by rw [List.length_map,hsl]; exact Nat.le_refl _)
   have hdr : List.drop 1 (List.take ((l.length : Int) + 1).toNat (I i :: List.map I l)) = List.map I l:=by
    rw [show ((l.length : Int) + 1).toNat = l.length + 1 by omega,List.take_succ_cons,List.drop_succ_cons,List.drop_zero]
    exact take_all I l
   refine does0 c_Z105 mixed (Nat.le_of_ble_eq_true rfl) ?_
   conv=>arg 3; whnf
   repeat' (first|with_reducible refine acc_none ?_ | (conv in hold _=>simp (disch:=omega) only [go_sem,intsD,List.map_cons])|refine Stp.go ?_|(with_reducible first|refine it_pos rfl ?_|refine it_neg (by decide) ?_|refine st_nil rfl ?_|refine s_op ?_ ?_|exact trivial)|((with_reducible first|refine dw_reg0 ?_|refine dw_regB ?_);(conv=>arg 3;whnf))|(refine Spl.go (fun hq he=>?_) (fun hq he=>?_)<;>first|(exfalso;clear hq;omega)|((try first|(conv=>arg 8;simp only [hq])|(conv=>arg 4;simp only [hq]));clear hq))|((with_reducible first|refine c_split (fun hq=>?_) (fun hq=>?_)|refine q_split (fun hq=>?_) (fun hq=>?_))<;>(try first|(conv=>arg 8;simp only [hq])|(conv=>arg 4;simp only [hq])))|(with_reducible refine fin_0 ?_ (by first|rfl|(conv=>lhs;simp only [go_sem,intsD,List.map_cons])) ?_)|exact Sub.refl _|omega)
   refine c_doesR [3000001] (hcl) (callOK_of rfl (Nat.le_of_ble_eq_true rfl) rfl ?_ ?_) ?_ ?_
   ·repeat' (first|(conv in hold _=>simp (disch:=omega) only [go_sem,intsD,List.map_cons,List.getElem?_map,k2,Option.map_some,List.length_map,hdr])|exact trivial|exact Sub.refl _|omega)
   ·repeat' (first|(conv in hold _=>simp (disch:=omega) only [go_sem,intsD,List.map_cons,List.getElem?_map,k2,Option.map_some,List.length_map,hdr])|exact trivial|exact Sub.refl _|omega)
   ·((conv=>rhs;simp (disch:=omega) only [go_sem,intsD,List.map_cons,List.getElem?_map,k2,Option.map_some,List.length_map,hdr]); try rfl)
   repeat' (first|with_reducible refine acc_none ?_ | (conv in hold _=>simp (disch:=omega) only [go_sem,intsD,List.map_cons,List.getElem?_map,k2,Option.map_some,List.length_map,hdr])|refine Stp.go ?_|(with_reducible first|refine it_pos rfl ?_|refine it_neg (by decide) ?_|refine st_nil rfl ?_|refine s_op ?_ ?_|exact trivial)|((with_reducible first|refine dw_reg0 ?_|refine dw_regB ?_);(conv=>arg 3;whnf))|(refine Spl.go (fun hq he=>?_) (fun hq he=>?_)<;>first|(exfalso;clear hq;omega)|((try first|(conv=>arg 8;simp only [hq])|(conv=>arg 4;simp only [hq]));clear hq))|((with_reducible first|refine c_split (fun hq=>?_) (fun hq=>?_)|refine q_split (fun hq=>?_) (fun hq=>?_))<;>(try first|(conv=>arg 8;simp only [hq])|(conv=>arg 4;simp only [hq])))|(with_reducible refine fin_0 ?_ (by first|rfl|(conv=>lhs;simp only [go_sem,intsD,List.map_cons,List.getElem?_map,k2,Option.map_some,List.length_map,hdr])) ?_)|exact Sub.refl _|omega)
   refine c_doesE (hix) ?_ ?_ ?_
   ·((try (conv=>rhs;simp (disch:=omega) only [go_sem,intsD,List.map_cons,List.getElem?_map,k2,Option.map_some,List.length_map,hst,hdr])); try rfl)
   ·first|rfl|(conv=>lhs;simp only [go_sem,intsD,List.map_cons,List.getElem?_map,k2,Option.map_some,List.length_map,hst,hdr])
   repeat' (first|with_reducible refine acc_none ?_ | (conv in hold _=>simp (disch:=omega) only [go_sem,intsD,List.map_cons,List.getElem?_map,k2,Option.map_some,List.length_map,hst,hdr])|refine Stp.go ?_|(with_reducible first|refine it_pos rfl ?_|refine it_neg (by decide) ?_|refine st_nil rfl ?_|refine s_op ?_ ?_|exact trivial)|((with_reducible first|refine dw_reg0 ?_|refine dw_regB ?_);(conv=>arg 3;whnf))|(refine Spl.go (fun hq he=>?_) (fun hq he=>?_)<;>first|(exfalso;clear hq;omega)|((try first|(conv=>arg 8;simp only [hq])|(conv=>arg 4;simp only [hq]));clear hq))|((with_reducible first|refine c_split (fun hq=>?_) (fun hq=>?_)|refine q_split (fun hq=>?_) (fun hq=>?_))<;>(try first|(conv=>arg 8;simp only [hq])|(conv=>arg 4;simp only [hq])))|exact Sub.refl _|omega)
   refine fin_wk (wk_frzO 2000006 3000001 (by decide) (by decide) rfl (by decide) rfl ?_) ?_
   rotate_left
   (conv in hold _=>simp (disch:=omega) only [go_sem,List.length_map,hsl,htk,Nat.le_refl,hst])
   ·refine fin_L [] ?_ ?_ rfl ?_
    repeat' (first|(conv in hold _=>simp (disch:=omega) only [go_sem])|exact trivial|exact Sub.refl _|omega)
   ·exact plans_pur _
theorem applyStep_ok {ws : List Int} (hw : wsOk ws) {p : Pl} {w : Int} (h : Wf ws p 8 w) (r : Int) (l : List Int) (hl : l.length < 2000000) : Does Tryz.prog 54 [] [pD p,intsD ws,stD r l] (paD (apP ws r l p)) []:=by
 have hs:=wf_size h
 rw [pw_8] at hs
 have h1:=planAt_ok p (by omega) l hl
 have hp:=wf_loc h (by decide)
 unfold stD
 unfold apP
 cases ha : paOf p l with
 | none=>
  rw [ha] at h1
  rw [Option.bind_none]
  unfold paD at h1 ⊢
  refine Bg c_Z100 mixed (go1 @intsD.eq_1 ?_)
  refine Uc @intsD.eq_1 (h1) (go1 @intsD.eq_1 ?_)
  exact zP_sub
 | some a=>
  rw [ha] at h1
  rw [Option.bind_some]
  obtain ⟨u,ed,hd,hu,_,_⟩:=rep_wf hw l h ha
  have h2:=rewrite_ok hw hu (by omega) r
  unfold paD at h1
  cases hq : ruP ws r a with
  | none=>
   rw [hq] at h2
   rw [Option.bind_none]
   unfold rsD at h2
   unfold paD
   refine Bg c_Z100 mixed (go1 @intsD.eq_1 ?_)
   refine Uc @intsD.eq_1 (h1) (go1 @intsD.eq_1 ?_)
   refine Uc @intsD.eq_1 (h2) (go1 @intsD.eq_1 ?_)
   exact zP_sub
  | some q=>
   rw [hq] at h2
   rw [Option.bind_some]
   unfold rsD at h2
   have hql:=ru_loc hw hu (by omega) hq
   have h3:=replaceAt_ok l q ha hp hql (by omega)
   obtain ⟨_,h4,_⟩:=width_loc hw (repP p l q) (rep_loc l ha hp hql) 8 (by decide)
   by_cases hz : wdV ws (repP p l q) 8 = 0
   ·rw [if_pos hz]
    rw [hz] at h4
    unfold paD
    generalize repP p l q = y at *
    refine Bg c_Z100 mixed (go1 @intsD.eq_1 ?_)
    refine Uc @intsD.eq_1 (h1) (go1 @intsD.eq_1 ?_)
    refine Uc @intsD.eq_1 (h2) (go1 @intsD.eq_1 ?_)
    refine Uc @intsD.eq_1 (h3) (go1 @intsD.eq_1 ?_)
    refine Uc trivial (h4) (go1 trivial ?_)
    exact zP_sub
   ·rw [if_neg hz]
    have hne : (wdV ws (repP p l q) 8 == 0) = false:=beq_eq_false_iff_ne.2 hz
    unfold paD
    generalize wdV ws (repP p l q) 8 = wv at *
    generalize repP p l q = y at *
    refine Bg c_Z100 mixed (go1 @intsD.eq_1 ?_)
    refine Uc @intsD.eq_1 (h1) (go1 @intsD.eq_1 ?_)
    refine Uc @intsD.eq_1 (h2) (go1 @intsD.eq_1 ?_)
    refine Uc @intsD.eq_1 (h3) (go1 @intsD.eq_1 ?_)
    exact Uc @hne (h4) (go0 @hne)
end Go.Proofs.YtgpdmgaemhelgaaGreat
