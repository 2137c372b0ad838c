/-
  EvalPlan of the program answers as the model's. No condition.
-/
import Derived.Test.YtefldihjbaodnaaGreatKSDca
import Derived.Test.YtefldihjbaodnaaGreatKSDcg
import Derived.Test.YtefldihjbaodnaaGreatJSVPiP
import Derived.Test.YtefldihjbaodnaaGreatJSVPlanE
import Derived.Test.YtefldihjbaodnaaGreatJSVGo
set_option maxHeartbeats 4000000
set_option maxRecDepth 100000
set_option linter.unusedVariables false
set_option linter.unusedSimpArgs false
namespace Go.Proofs.YtefldihjbaodnaaGreat
open Go.RowKit
theorem col_rsw {w : Nat} {l : List (List V)} (h : RsW w l) : RsW w (colL l):=by
 unfold colL
 split
 ·exact h
 ·exact fun r hr=>by cases hr
theorem col_few (l : List (List V)) : (colL l).length ≤ 400:=by
 unfold colL
 split
 ·assumption
 ·exact Nat.zero_le _
theorem tabQ_of {w : Nat} {x : Int} {l : List (List V)} (hx : x = (w : Int)) (h : RsW w l) : TabQ w ⟨x,colL l⟩:=⟨hx,col_rsw h,col_few l⟩
theorem fold_1 {p q : Pl} {db : List Ta} {t : Ta} {L : List (List V)} {w wp : Nat} (hk : p.k ≠ 1) (hks : p.ks = [q]) (hc : p.cs.length ≤ 1048576) (ht : TabQ wp t) (hw : wp ≤ 6) (hO : OpI p [t] L) (hl : L.length ≤ 1000000) (hL : RsW w L) (hf : fromV p [t.w] = (w : Int))
  (hq : Does Tryz.prog 28 [] [pD q,.fn 29 [.ptr [tasD db]]] (taD t) []) :
  TabQ w ⟨fromV p [t.w],colL L⟩ ∧ Does Tryz.prog 28 [] [pD p,.fn 29 [.ptr [tasD db]]] (taD ⟨fromV p [t.w],colL L⟩) []:=by
 refine ⟨tabQ_of hf hL,foldT_step (q:=[t]) (by rw [hks]; rfl) (by rw [hks]; simp) (fun i x c hx hc=>?_) ?_⟩
 ·rw [hks] at hx
  cases i with
  | zero=>
   obtain rfl : q = x:=by simpa using hx
   obtain rfl : t = c:=by simpa using hc
   exact hq
  | succ i=>simp at hx
 ·exact resultOf_op (kids:=[t]) hk hO hl (by simp) (by simp) (fun x hx=>by obtain rfl:=List.mem_singleton.1 hx; have:=ht.wid; omega) hc
theorem fold_2 {p q r : Pl} {db : List Ta} {t u : Ta} {L : List (List V)} {w wt wu : Nat} (hk : p.k ≠ 1) (hks : p.ks = [q,r]) (hc : p.cs.length ≤ 1048576) (ht : TabQ wt t) (hu : TabQ wu u) (hwt : wt ≤ 6) (hwu : wu ≤ 6) (hO : OpI p [t,u] L) (hl : L.length ≤ 1000000) (hL : RsW w L) (hf : fromV p [t.w,u.w] = (w : Int))
  (hq : Does Tryz.prog 28 [] [pD q,.fn 29 [.ptr [tasD db]]] (taD t) [])
  (hr : Does Tryz.prog 28 [] [pD r,.fn 29 [.ptr [tasD db]]] (taD u) []) :
  TabQ w ⟨fromV p [t.w,u.w],colL L⟩ ∧ Does Tryz.prog 28 [] [pD p,.fn 29 [.ptr [tasD db]]] (taD ⟨fromV p [t.w,u.w],colL L⟩) []:=by
 refine ⟨tabQ_of hf hL,foldT_step (q:=[t,u]) (by rw [hks]; rfl) (by rw [hks]; simp) (fun i x c hx hc=>?_) ?_⟩
 ·rw [hks] at hx
  match i with
  | 0=>
   obtain rfl : q = x:=by simpa using hx
   obtain rfl : t = c:=by simpa using hc
   exact hq
  | 1=>
   obtain rfl : r = x:=by simpa using hx
   obtain rfl : u = c:=by simpa using hc
   exact hr
  | i + 2=>simp at hx
 ·refine resultOf_op (kids:=[t,u]) hk hO hl (by simp) (by simp) (fun x hx=>?_) hc
  have h1:=ht.wid
  have h2:=hu.wid
  rcases List.mem_cons.1 hx with rfl | hx
  ·omega
  ·obtain rfl:=List.mem_singleton.1 hx; omega
theorem psz_kid {p q : Pl} (h : q ∈ p.ks) (hs : psz p ≤ 1048576) : psz q ≤ 1048576:=by
 rw [psz_eq] at hs
 have:=pszL_mem h
 omega
theorem psz_cs {p : Pl} (hs : psz p ≤ 1048576) : p.cs.length ≤ 1048576:=by
 rw [psz_eq] at hs
 omega
theorem foldT_ok {ws : List Nat} {db : List Ta} (hd : DbW ws db) {p : Pl} {w : Nat} (h : Wt ws p w) : psz p ≤ 1048576 →
  ∃ t : Ta,TabQ w t ∧ t.rows.Perm (evP db p).rows ∧ Does Tryz.prog 28 [] [pD p,.fn 29 [.ptr [tasD db]]] (taD t) []:=by
 induction h with
 | @scan p j w hk ht hj hks=>
  intro hs
  obtain ⟨t,hdj⟩ : ∃ t,db[j]? = some t:=⟨_,List.getElem?_eq_getElem (by have:=(List.getElem?_eq_some_iff.1 hj).1; have:=hd.len; omega)⟩
  have hT:=hd.tab j t w hdj hj
  have hev : evP db p = t:=by
   rw [evP_0 hks,opT,if_pos hk,ht,List.getD_eq_getElem?_getD,show ((j : Int)).toNat = j from rfl,hdj]
   rfl
  rw [hev]
  exact ⟨t,⟨hT.wid,hT.row,hT.few⟩,List.Perm.refl _,foldT_step (q:=[]) (by rw [hks]; rfl) (by rw [hks]; decide) (fun i x c hx hc=>by simp at hc) (resultOf_scan hk ht hdj)⟩
 | @filter p q w e hk hks hes hq he ih=>
  intro hs
  obtain ⟨t,hT,hP,hF⟩:=ih (psz_kid (by rw [hks]; exact List.mem_cons_self ..) hs)
  have hwl:=hq.pos hd.wid
  have hrs : RsW w (t.rows.filter (holdsB e)):=rsw_sub List.filter_sublist hT.row
  obtain ⟨h1,h2⟩:=fold_1 (w:=w) (by omega) hks (psz_cs hs) hT hwl.2 (op_filter hk hes hT he) (by have:=List.length_filter_le (holdsB e) t.rows; have:=hT.few; omega) hrs (by
   unfold fromV
   rw [if_neg (by omega),if_neg (by omega),if_neg (by omega)]
   exact hT.wid) hF
  refine ⟨_,h1,?_,h2⟩
  rw [evP_1 hks,opT,if_neg (by omega),if_pos hk,hes]
  exact col_perm (hP.filter _)
 | @project p q w hk hks hq hes hl ih=>
  intro hs
  obtain ⟨t,hT,hP,hF⟩:=ih (psz_kid (by rw [hks]; exact List.mem_cons_self ..) hs)
  have hwl:=hq.pos hd.wid
  obtain ⟨h1,h2⟩:=fold_1 (w:=p.es.length) (by omega) hks (psz_cs hs) hT hwl.2 (op_project hk hT (by omega) hes) (by rw [List.length_map]; have:=hT.few; omega) (rsw_prj hT.row hes) (by
   unfold fromV
   rw [if_pos hk]) hF
  refine ⟨_,h1,?_,h2⟩
  rw [evP_1 hks,opT,if_neg (by omega),if_neg (by omega),if_pos hk]
  exact col_perm (hP.map _)
 | @join p q r wa wb e hk hks hes hq hr he hw ih1 ih2=>
  intro hs
  obtain ⟨t,hT,hP,hF⟩:=ih1 (psz_kid (by rw [hks]; exact List.mem_cons_self ..) hs)
  obtain ⟨u,hU,hQ,hG⟩:=ih2 (psz_kid (by rw [hks]; exact List.mem_cons_of_mem _ (List.mem_cons_self ..)) hs)
  have hwa:=hq.pos hd.wid
  have hwb:=hr.pos hd.wid
  have hWb:=(evalPlan_ok hd hr).1
  have hjl : ∀ o,(joiL o wb e t.rows u.rows).length ≤ 1000000:=fun o=>by
   have h1:=joiL_len o wb e u.rows t.rows
   have h2 : t.rows.length * (u.rows.length + 1) ≤ 400 * 401:=Nat.mul_le_mul hT.few (by have:=hU.few; omega)
   omega
  have hrs:=fun o=>rsw_joi hT.row hU.row o e
  have hfv : fromV p [t.w,u.w] = ((wa + wb : Nat) : Int):=by
   unfold fromV
   rw [if_neg (by omega),if_pos hk,hT.wid,hU.wid]
   simp
  have hO : OpI p [t,u] (joiL (p.k == 5) wb e t.rows u.rows):=by
   rcases hk with hk | hk
   ·rw [show (p.k == 5) = false by rw [hk]; rfl]
    exact op_join hk hes hT hU (by omega) hw he
   ·rw [show (p.k == 5) = true by rw [hk]; rfl]
    exact op_left hk hes hT hU (by omega) hw he
  obtain ⟨h1,h2⟩:=fold_2 (w:=wa + wb) (by omega) hks (psz_cs hs) hT hU hwa.2 hwb.2 hO (hjl _) (hrs _) hfv hF hG
  refine ⟨_,h1,?_,h2⟩
  rw [evP_2 hks,opT,if_neg (by omega),if_neg (by omega),if_neg (by omega),if_pos hk,hes,hWb.wid]
  exact col_perm (joi_perm hP hQ)
 | @union p q r w hk hks hq hr ih1 ih2=>
  intro hs
  obtain ⟨t,hT,hP,hF⟩:=ih1 (psz_kid (by rw [hks]; exact List.mem_cons_self ..) hs)
  obtain ⟨u,hU,hQ,hG⟩:=ih2 (psz_kid (by rw [hks]; exact List.mem_cons_of_mem _ (List.mem_cons_self ..)) hs)
  have hwa:=hq.pos hd.wid
  have hft:=hT.few
  have hfu:=hU.few
  obtain ⟨h1,h2⟩:=fold_2 (w:=w) (by omega) hks (psz_cs hs) hT hU hwa.2 hwa.2 (op_union hk hft hfu) (by rw [List.length_append]; omega) (fun x hx=>(List.mem_append.1 hx).elim (hT.row x) (hU.row x)) (by
   unfold fromV
   rw [if_neg (by omega),if_neg (by omega),if_neg (by omega)]
   exact hT.wid) hF hG
  refine ⟨_,h1,?_,h2⟩
  rw [evP_2 hks,opT,if_neg (by omega),if_neg (by omega),if_neg (by omega),if_neg (by omega),if_pos hk]
  exact col_perm (hP.append hQ)
 | @distinct p q w hk hks hq ih=>
  intro hs
  obtain ⟨t,hT,hP,hF⟩:=ih (psz_kid (by rw [hks]; exact List.mem_cons_self ..) hs)
  have hwl:=hq.pos hd.wid
  have hW:=(evalPlan_ok hd hq).1
  have hdp:=dst_perm hW.row hW.asc hP
  have hdl : (dstL (evP db q).rows (evP db q).rows.length).length ≤ 400:=by
   have:=(dstL_sub (evP db q).rows (evP db q).rows.length (Nat.le_refl _)).length_le
   rw [List.take_length] at this
   have:=hW.few
   omega
  have hql:=hdp.length_eq
  have hrs : RsW w (dstQ t.rows):=fun x hx=>hT.row x ((dstQ_mem t.rows hT.row x).1 hx)
  obtain ⟨h1,h2⟩:=fold_1 (w:=w) (by omega) hks (psz_cs hs) hT hwl.2 (op_distinct hk hT (by omega)) (by omega) hrs (by
   unfold fromV
   rw [if_neg (by omega),if_neg (by omega),if_neg (by omega)]
   exact hT.wid) hF
  refine ⟨_,h1,?_,h2⟩
  rw [evP_1 hks,opT,if_neg (by omega),if_neg (by omega),if_neg (by omega),if_neg (by omega),if_neg (by omega),if_pos hk]
  show (colL (dstQ t.rows)).Perm (dstL (evP db q).rows (evP db q).rows.length)
  unfold colL
  rw [if_pos (by omega)]
  exact hdp
 | @group p q w hk hks hq hc hl ih=>
  intro hs
  obtain ⟨t,hT,hP,hF⟩:=ih (psz_kid (by rw [hks]; exact List.mem_cons_self ..) hs)
  have hwl:=hq.pos hd.wid
  have hW:=(evalPlan_ok hd hq).1
  have hgp:=grp_perm hc hW.row hP
  have hgr:=grp_rsw hW.row hW.few hc
  have hrs : RsW (p.cs.length + 1) (grpQ p.cs t.rows):=fun x hx=>hgr x (hgp.mem_iff.1 hx)
  have hgl : (grpQ p.cs t.rows).length ≤ 400:=by
   rw [hgp.length_eq]
   unfold grpL
   rw [List.length_zipWith]
   have hfi:=groG_inv p.cs (evP db q).rows (evP db q).rows.length (Nat.le_refl _)
   rw [List.take_length] at hfi
   have:=hfi.few
   have:=hW.few
   omega
  obtain ⟨h1,h2⟩:=fold_1 (w:=p.cs.length + 1) (by omega) hks (psz_cs hs) hT hwl.2 (op_group hk hT (by omega) (by omega) hc) (by omega) hrs (by
   unfold fromV
   rw [if_neg (by omega),if_neg (by omega),if_pos hk]
   rfl) hF
  refine ⟨_,h1,?_,h2⟩
  rw [evP_1 hks,opT,if_neg (by omega),if_neg (by omega),if_neg (by omega),if_neg (by omega),if_neg (by omega),if_neg (by omega)]
  exact col_perm hgp
theorem tableWidths_t {db : List Ta} (hl : db.length ≤ 1000) (h : dbOk db) (hsz : ∀ t,t ∈ db → rsz t.rows ≤ 1048576) : Does Tryz.prog 27 [] [tasD db] (intsD (natI (dbWs db))) []:=by
 have hnl : (natI (dbWs db)).length = db.length:=by unfold natI dbWs; rw [List.length_map,List.length_map]
 have htk : ((natI (dbWs db)).map I).take db.length = (natI (dbWs db)).map I:=by rw [← hnl]; exact take_all I _
 refine Bg c_Z101 mixed (go1 trivial ?_)
 refine dw_for (c:=1) (l:=fun i=>[(3,.own 1000000 1 i),(6,tasD db),(7,I db.length),(8,I i),(1000000,.row 1 (((natI (dbWs db)).take i).map I))]) db.length (fun _=>True) 0 trivial ((wk_row 3 2000090 1 (by decide) (by decide) rfl rfl).trans (Wk.list [2000090] rfl rfl ?_)) (fun i hi _=>?_) (Nat.zero_le _)
 ·repeat' (first|(conv in hold _=>simp (disch:=omega) only [go_sem])|exact trivial|exact Sub.refl _|omega)
  first | exact rfl | exact ⟨rfl,rfl⟩
 ·have htm : (((natI (dbWs db)).take i).map I).take i = ((natI (dbWs db)).take i).map I:=take_map I (by rw [hnl]; exact hi)
  have htl : ((natI (dbWs db)).take i).length = i:=take_len (by rw [hnl]; exact hi)
  rcases at_or_end hi with ⟨t,ht,hlt⟩ | rfl
  ·have hv:=ValidTable_impl t (hsz t (List.mem_of_getElem? ht))
   have hok:=h t (List.mem_of_getElem? ht)
   rw [decide_eq_true hok] at hv
   obtain ⟨w,hw,hw6,_⟩:=tOk_nat hok
   have hnx : (natI (dbWs db)).take (i + 1) = (natI (dbWs db)).take i ++ [t.w]:=take_next (by
    unfold natI dbWs
    rw [List.getElem?_map,List.getElem?_map,ht]
    show some ((t.w.toNat : Nat) : Int) = some t.w
    rw [hw]
    rfl)
   refine go1 @ht ?_
   refine Uc (cj2 @ht @htm) (hv) (go1 (cj2 @ht @htm) ?_)
   refine ⟨hlt,trivial,Wk.list [2000019] rfl rfl ?_⟩
   repeat' (first|(conv in hold _=>simp (disch:=omega) only [go_sem,hnx,htm])|exact trivial|exact Sub.refl _|omega)
   rw [List.map_append]
   rfl
  ·have e1 : (natI (dbWs db)).take db.length = natI (dbWs db):=List.take_of_length_le (by omega)
   rw [e1]
   refine go1F trivial ?_
   refine fin_wk (wk_frz 2 1000000 (by decide) (by decide) rfl ?_) ?_
   rotate_left
   (conv in hold _=>simp (disch:=omega) only [go_sem,htk,hnl,List.length_map,Nat.le_refl])
   ·refine fin_L [] ?_ ?_ rfl ?_
    repeat' (first|(conv in hold _=>simp (disch:=omega) only [go_sem])|exact trivial|exact Sub.refl _|omega)
   ·exact ints_pur _
theorem tableWidths_f {db : List Ta} (hl : db.length ≤ 1000) (hsz : ∀ t,t ∈ db → rsz t.rows ≤ 1048576) (h : ¬ dbOk db) : Does Tryz.prog 27 [] [tasD db] (intsD (natI [])) []:=by
 refine Bg c_Z101 mixed (go1 trivial ?_)
 refine dw_for (c:=1) (l:=fun i=>[(3,.own 1000000 1 i),(6,tasD db),(7,I db.length),(8,I i),(1000000,.row 1 (((natI (dbWs db)).take i).map I))]) db.length (fun i=>∀ (j : Nat) (t : Ta),j < i → db[j]? = some t → tOk t) 0 (fun j t hj=>by omega) ((wk_row 3 2000090 1 (by decide) (by decide) rfl rfl).trans (Wk.list [2000090] rfl rfl ?_)) (fun i hi hJ=>?_) (Nat.zero_le _)
 ·repeat' (first|(conv in hold _=>simp (disch:=omega) only [go_sem])|exact trivial|exact Sub.refl _|omega)
  first | exact rfl | exact ⟨rfl,rfl⟩
 ·have hnl : (natI (dbWs db)).length = db.length:=by unfold natI dbWs; rw [List.length_map,List.length_map]
  have htm : (((natI (dbWs db)).take i).map I).take i = ((natI (dbWs db)).take i).map I:=take_map I (by rw [hnl]; exact hi)
  have htl : ((natI (dbWs db)).take i).length = i:=take_len (by rw [hnl]; exact hi)
  rcases at_or_end hi with ⟨t,ht,hlt⟩ | rfl
  ·have hv:=ValidTable_impl t (hsz t (List.mem_of_getElem? ht))
   by_cases hok : tOk t
   ·rw [decide_eq_true hok] at hv
    obtain ⟨w,hw,hw6,_⟩:=tOk_nat hok
    have hnx : (natI (dbWs db)).take (i + 1) = (natI (dbWs db)).take i ++ [t.w]:=take_next (by
     unfold natI dbWs
     rw [List.getElem?_map,List.getElem?_map,ht]
     show some ((t.w.toNat : Nat) : Int) = some t.w
     rw [hw]
     rfl)
    refine go1 @ht ?_
    refine Uc (cj2 @ht @htm) (hv) (go1 (cj2 @ht @htm) ?_)
    refine ⟨hlt,fun j u hj hu=>?_,Wk.list [2000019] rfl rfl ?_⟩
    ·by_cases hji : j = i
     ·subst hji
      rw [ht] at hu
      cases hu
      exact hok
     ·exact hJ j u (by omega) hu
    ·repeat' (first|(conv in hold _=>simp (disch:=omega) only [go_sem,hnx,htm])|exact trivial|exact Sub.refl _|omega)
     rw [List.map_append]
     rfl
   ·rw [decide_eq_false hok] at hv
    refine go1 @ht ?_
    refine Uc trivial (hv) (go1 trivial ?_)
    exact Sub.nul 1
  ·refine absurd (fun t ht=>?_) h
   obtain ⟨j,hj⟩:=List.mem_iff_getElem?.1 ht
   exact hJ j t (List.getElem?_eq_some_iff.1 hj).1 hj
theorem EvalPlan_impl_t {p : Pl} (hs : psz p ≤ 1048576) {db : List Ta} (hl : db.length ≤ 1000) (hsz : ∀ t,t ∈ db → rsz t.rows ≤ 1048576) {n : Nat} (hf : fitP p db n) (hp : Does Tryz.prog 26 [] [pD p,intsD (natI (dbWs db))] (I n) []) :
  Does Tryz.prog 7 [] [pD p,tasD db] (.tup [taD (evP db p),Bo true]) []:=by
 obtain ⟨h1,h2,hn0,hw⟩:=hf
 have hd:=dbW_of h1 h2
 obtain ⟨t,hT,hP,hF⟩:=foldT_ok hd hw hs
 have hW:=(evalPlan_ok hd hw).1
 have hwl:=hw.pos hd.wid
 have h3:=tableWidths_t hl h1 hsz
 have h4:=cloneRows_own t.rows (fun r hr=>by have:=(hT.row r hr).1; omega) (by have:=hT.few; omega)
 have h5:=sortedTable_ok n (by omega) t.rows hT.row (by have:=hT.few; omega)
 have he : taD (evP db p) = taD ⟨(n : Int),srt t.rows⟩:=by
  rw [hW.eta,srt_congr hW.row hP,srt_of_asc hW.row hW.asc]
 have hne : ¬ ((n : Int) = 0):=by omega
 have htw:=hT.wid
 rw [he]
 refine Bg c_Z152 mixed (go1 trivial ?_)
 refine Uc trivial (h3) (go1 trivial ?_)
 refine Uc @hne (hp) (go1C @hne ?_)
 refine s_pre (pre_fro (t:=14) (g:=2000003) (by decide) (by decide) rfl ?_) ?_
 rotate_left
 refine go1 trivial ?_
 ·refine Uc @htw (hF) (go1 @htw ?_)
  refine UcR [3000001] @htw (h4) (go1 @htw ?_)
  exact UcR [3000001] @htw (h5) (go0 @htw)
 ·rfl
theorem EvalPlan_impl_f {p : Pl} {db : List Ta} {ws : List Int} (h3 : Does Tryz.prog 27 [] [tasD db] (intsD ws) []) (hp : Does Tryz.prog 26 [] [pD p,intsD ws] (I 0) []) :
  Does Tryz.prog 7 [] [pD p,tasD db] (.tup [taD ⟨0,[]⟩,Bo false]) []:=by
 refine Bg c_Z152 mixed (go1 trivial ?_)
 refine Uc trivial (h3) (go1 trivial ?_)
 refine Uc trivial (hp) (go1 trivial ?_)
 exact sub_zero
end Go.Proofs.YtefldihjbaodnaaGreat
