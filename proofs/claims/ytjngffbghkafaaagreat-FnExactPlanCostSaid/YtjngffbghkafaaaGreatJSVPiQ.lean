/-
  What the program makes of a plan, part by part. No condition.
-/
import Derived.Test.YtjngffbghkafaaaGreatKSDca
import Derived.Test.YtjngffbghkafaaaGreatKSDcf
import Derived.Test.YtjngffbghkafaaaGreatJSVPiL
import Derived.Test.YtjngffbghkafaaaGreatKSVPiM
import Derived.Test.YtjngffbghkafaaaGreatJSVPlanC
import Derived.Test.YtjngffbghkafaaaGreatJSVGo
import Derived.Test.YtjngffbghkafaaaGreatJSDce
import Derived.Test.YtjngffbghkafaaaGreatJSVPlanO
set_option maxHeartbeats 4000000
set_option maxRecDepth 100000
set_option linter.unusedVariables false
set_option linter.unusedSimpArgs false
namespace Go.Proofs.YtjngffbghkafaaaGreat
open Go.RowKit
theorem resultOf_scan {p : Pl} {db kids : List Ta} {j : Nat} {t : Ta} (hk : p.k = 1) (ht : p.t = (j : Int)) (hj : db[j]? = some t) : Does Tryz.prog 56 [] [pD p,tasD kids,tasD db] (taD t) []:=by
 have hlt:=(List.getElem?_eq_some_iff.1 hj).1
 exact Bg c_Z114 mixed (go0 (cj3 @hk @ht @hj))
theorem resultOf_op {p : Pl} {db kids : List Ta} {L : List (List V)} (hk : p.k ≠ 1) (hO : OpI p kids L) (hl : L.length ≤ 1000000) (hn : kids.length ≤ 1000) (h0 : 0 < kids.length) (hw : ∀ t,t ∈ kids → 0 ≤ t.w ∧ t.w ≤ 6) (hc : p.cs.length ≤ 1048576) :
  Does Tryz.prog 56 [] [pD p,tasD kids,tasD db] (taD ⟨fromV p (kids.map Ta.w),colL L⟩) []:=by
 obtain ⟨f,caps,hf,hcp,h1,hY⟩:=hO
 have hren:=fun K=>ren_pure.renL_pure K caps hcp
 have h2:=collectRows_ok hf hcp L hl hY
 have hnl : (kids.map Ta.w).length = kids.length:=List.length_map _
 have h3:=widthFrom_ok p (kids.map Ta.w) (by omega) hc (fun j x hj=>by
  rw [List.getElem?_map] at hj
  cases hk : kids[j]? with
  | none=>rw [hk] at hj; cases hj
  | some t=>
   rw [hk] at hj
   obtain rfl : t.w = x:=by simpa using hj
   exact hw t (List.mem_of_getElem? hk)) (by omega)
 have htk : ((kids.map Ta.w).map I).take kids.length = (kids.map Ta.w).map I:=by rw [← hnl]; exact take_all I _
 refine Bg c_Z114 mixed (go1 (cj2 @hcp @hren) ?_)
 refine dw_for (c:=3) (l:=fun i=>[(1,tasD kids),(3,.ref 1000000 0),(6,.ref 1000001 0),(7,.own 1000002 1 i),(18,tasD kids),(19,I kids.length),(20,I i),(1000000,.obj [I p.k,I p.t,.sl 5 (p.es.map eD),intsD p.cs,.sl 5 (p.ks.map pD)]),(1000001,.obj [I 0,.nul]),(1000002,.row 1 (((kids.map Ta.w).take i).map I))]) kids.length (fun _=>True) 0 trivial ((wk_row 7 2000090 1 (by decide) (by decide) rfl rfl).trans (Wk.list [2000003,2000006,2000090] rfl rfl ?_)) (fun i hi _=>?_) (Nat.zero_le _)
 ·repeat' (first|(conv in hold _=>simp (disch:=omega) only [go_sem])|exact trivial|exact Sub.refl _|omega)
  first | exact rfl | exact ⟨rfl,rfl⟩ | exact ⟨rfl,rfl,rfl⟩
 ·have htl : ((kids.map Ta.w).take i).length = i:=take_len (by omega)
  have hmk : (((kids.map Ta.w).take i).map I).take i = ((kids.map Ta.w).take i).map I:=take_map I (by omega)
  rcases at_or_end hi with ⟨x,hx,hlt⟩ | rfl
  ·have hnx : (kids.map Ta.w).take (i + 1) = (kids.map Ta.w).take i ++ [x.w]:=take_next (by rw [List.getElem?_map,hx]; rfl)
   refine go1 @hx ?_
   refine ⟨hlt,trivial,Wk.list [1000000,1000001,2000028] rfl rfl ?_⟩
   repeat' (first|(conv in hold _=>simp (disch:=omega) only [go_sem,List.length_map,htl])|exact trivial|exact Sub.refl _|omega)
   rw [hmk,hnx,List.map_append]
   rfl
  ·have e1 : (kids.map Ta.w).take kids.length = kids.map Ta.w:=List.take_of_length_le (by omega)
   rw [e1]
   refine go1C trivial ?_
   refine s_pre (pre_frz (t:=31) (g:=1000002) (by decide) (by decide) rfl ?_) ?_
   rotate_left
   refine go1 (cj2 @htk @hnl) ?_
   ·refine Uc (cj2 @hcp @hren) (h3) (go1 (cj2 @hcp @hren) ?_)
    refine Uc (cj2 @hcp @hren) (h1) (go1 (cj2 @hcp @hren) ?_)
    exact Uc (cj2 @hcp @hren) (h2) (go0 (cj2 @hcp @hren))
   ·exact ints_pur _
end Go.Proofs.YtjngffbghkafaaaGreat
set_option maxHeartbeats 4000000
set_option maxRecDepth 100000
set_option linter.unusedVariables false
set_option linter.unusedSimpArgs false
namespace Go.Proofs.YtjngffbghkafaaaGreat
open Go.RowKit
theorem col_rsw {w : Nat} {l : List (List V)} (h : RsW w l) : RsW w (colL l):=by
 unfold colL
 split
 ·exact h
 ·exact fun r hr=>by cases hr
theorem col_few (l : List (List V)) : (colL l).length ≤ 400:=by
 unfold colL
 split
 ·assumption
 ·exact Nat.zero_le _
theorem tabQ_of {w : Nat} {x : Int} {l : List (List V)} (hx : x = (w : Int)) (h : RsW w l) : TabQ w ⟨x,colL l⟩:=⟨hx,col_rsw h,col_few l⟩
theorem psz_kid {p q : Pl} (h : q ∈ p.ks) (hs : psz p ≤ 1048576) : psz q ≤ 1048576:=by
 rw [psz_eq] at hs
 have:=pszL_mem h
 omega
theorem psz_cs {p : Pl} (hs : psz p ≤ 1048576) : p.cs.length ≤ 1048576:=by
 rw [psz_eq] at hs
 omega
theorem tableWidths_t {db : List Ta} (hl : db.length ≤ 1048576) (h : dbOk db) (hsz : ∀ t,t ∈ db → rsz t.rows ≤ 1048576) : Does Tryz.prog 45 [] [tasD db] (intsD (natI (dbWs db))) []:=by
 have hnl : (natI (dbWs db)).length = db.length:=by unfold natI dbWs; rw [List.length_map,List.length_map]
 have htk : ((natI (dbWs db)).map I).take db.length = (natI (dbWs db)).map I:=by rw [← hnl]; exact take_all I _
 refine Bg c_Z72 mixed (go1 trivial ?_)
 refine dw_for (c:=1) (l:=fun i=>[(3,.own 1000000 1 i),(6,tasD db),(7,I db.length),(8,I i),(1000000,.row 1 (((natI (dbWs db)).take i).map I))]) db.length (fun _=>True) 0 trivial ((wk_row 3 2000090 1 (by decide) (by decide) rfl rfl).trans (Wk.list [2000090] rfl rfl ?_)) (fun i hi _=>?_) (Nat.zero_le _)
 ·repeat' (first|(conv in hold _=>simp (disch:=omega) only [go_sem])|exact trivial|exact Sub.refl _|omega)
  first | exact rfl | exact ⟨rfl,rfl⟩
 ·have htm : (((natI (dbWs db)).take i).map I).take i = ((natI (dbWs db)).take i).map I:=take_map I (by rw [hnl]; exact hi)
  have htl : ((natI (dbWs db)).take i).length = i:=take_len (by rw [hnl]; exact hi)
  rcases at_or_end hi with ⟨t,ht,hlt⟩ | rfl
  ·have hv:=ValidTable_impl t (hsz t (List.mem_of_getElem? ht))
   have hok:=h t (List.mem_of_getElem? ht)
   rw [decide_eq_true hok] at hv
   obtain ⟨w,hw,hw6,_⟩:=tOk_nat hok
   have hnx : (natI (dbWs db)).take (i + 1) = (natI (dbWs db)).take i ++ [t.w]:=take_next (by
    unfold natI dbWs
    rw [List.getElem?_map,List.getElem?_map,ht]
    show some ((t.w.toNat : Nat) : Int) = some t.w
    rw [hw]
    rfl)
   refine go1 @ht ?_
   refine Uc (cj2 @ht @htm) (hv) (go1 (cj2 @ht @htm) ?_)
   refine ⟨hlt,trivial,Wk.list [2000019] rfl rfl ?_⟩
   repeat' (first|(conv in hold _=>simp (disch:=omega) only [go_sem,hnx,htm])|exact trivial|exact Sub.refl _|omega)
   rw [List.map_append]
   rfl
  ·have e1 : (natI (dbWs db)).take db.length = natI (dbWs db):=List.take_of_length_le (by omega)
   rw [e1]
   refine go1F trivial ?_
   refine fin_wk (wk_frz 2 1000000 (by decide) (by decide) rfl ?_) ?_
   rotate_left
   (conv in hold _=>simp (disch:=omega) only [go_sem,htk,hnl,List.length_map,Nat.le_refl])
   ·refine fin_L [] ?_ ?_ rfl ?_
    repeat' (first|(conv in hold _=>simp (disch:=omega) only [go_sem])|exact trivial|exact Sub.refl _|omega)
   ·exact ints_pur _
theorem tableWidths_f {db : List Ta} (hl : db.length ≤ 1048576) (hsz : ∀ t,t ∈ db → rsz t.rows ≤ 1048576) (h : ¬ dbOk db) : Does Tryz.prog 45 [] [tasD db] (intsD (natI [])) []:=by
 refine Bg c_Z72 mixed (go1 trivial ?_)
 refine dw_for (c:=1) (l:=fun i=>[(3,.own 1000000 1 i),(6,tasD db),(7,I db.length),(8,I i),(1000000,.row 1 (((natI (dbWs db)).take i).map I))]) db.length (fun i=>∀ (j : Nat) (t : Ta),j < i → db[j]? = some t → tOk t) 0 (fun j t hj=>by omega) ((wk_row 3 2000090 1 (by decide) (by decide) rfl rfl).trans (Wk.list [2000090] rfl rfl ?_)) (fun i hi hJ=>?_) (Nat.zero_le _)
 ·repeat' (first|(conv in hold _=>simp (disch:=omega) only [go_sem])|exact trivial|exact Sub.refl _|omega)
  first | exact rfl | exact ⟨rfl,rfl⟩
 ·have hnl : (natI (dbWs db)).length = db.length:=by unfold natI dbWs; rw [List.length_map,List.length_map]
  have htm : (((natI (dbWs db)).take i).map I).take i = ((natI (dbWs db)).take i).map I:=take_map I (by rw [hnl]; exact hi)
  have htl : ((natI (dbWs db)).take i).length = i:=take_len (by rw [hnl]; exact hi)
  rcases at_or_end hi with ⟨t,ht,hlt⟩ | rfl
  ·have hv:=ValidTable_impl t (hsz t (List.mem_of_getElem? ht))
   by_cases hok : tOk t
   ·rw [decide_eq_true hok] at hv
    obtain ⟨w,hw,hw6,_⟩:=tOk_nat hok
    have hnx : (natI (dbWs db)).take (i + 1) = (natI (dbWs db)).take i ++ [t.w]:=take_next (by
     unfold natI dbWs
     rw [List.getElem?_map,List.getElem?_map,ht]
     show some ((t.w.toNat : Nat) : Int) = some t.w
     rw [hw]
     rfl)
    refine go1 @ht ?_
    refine Uc (cj2 @ht @htm) (hv) (go1 (cj2 @ht @htm) ?_)
    refine ⟨hlt,fun j u hj hu=>?_,Wk.list [2000019] rfl rfl ?_⟩
    ·by_cases hji : j = i
     ·subst hji
      rw [ht] at hu
      cases hu
      exact hok
     ·exact hJ j u (by omega) hu
    ·repeat' (first|(conv in hold _=>simp (disch:=omega) only [go_sem,hnx,htm])|exact trivial|exact Sub.refl _|omega)
     rw [List.map_append]
     rfl
   ·rw [decide_eq_false hok] at hv
    refine go1 @ht ?_
    refine Uc trivial (hv) (go1 trivial ?_)
    exact Sub.nul 1
  ·refine absurd (fun t ht=>?_) h
   obtain ⟨j,hj⟩:=List.mem_iff_getElem?.1 ht
   exact hJ j t (List.getElem?_eq_some_iff.1 hj).1 hj
end Go.Proofs.YtjngffbghkafaaaGreat
set_option maxHeartbeats 4000000
set_option maxRecDepth 100000
set_option linter.unusedVariables false
set_option linter.unusedSimpArgs false
namespace Go.Proofs.YtjngffbghkafaaaGreat
open Go.RowKit
inductive ResT (db : List Ta) : Pl → Ta → Prop
 | mk {p : Pl} {t : Ta} (q : List Ta) (hl : q.length = p.ks.length) (hk4 : p.ks.length ≤ 1000) (hk : ∀ (i : Nat) (x : Pl) (c : Ta),p.ks[i]? = some x → q[i]? = some c → ResT db x c)
   (hr : Does Tryz.prog 56 [] [pD p,tasD q,tasD db] (taD t) []) (hp : t.rows.Perm (evP db p).rows) (hfew : t.rows.length ≤ 400) : ResT db p t
theorem res_1 {p q : Pl} {db : List Ta} {t : Ta} {L : List (List V)} {w wp : Nat} (hk : p.k ≠ 1) (hks : p.ks = [q]) (hc : p.cs.length ≤ 1048576) (ht : TabQ wp t) (hw : wp ≤ 6) (hO : OpI p [t] L) (hl : L.length ≤ 1000000) (hL : RsW w L) (hf : fromV p [t.w] = (w : Int)) (hpm : (colL L).Perm (evP db p).rows)
  (hq : ResT db q t) :
  TabQ w ⟨fromV p [t.w],colL L⟩ ∧ ResT db p ⟨fromV p [t.w],colL L⟩:=by
 refine ⟨tabQ_of hf hL,.mk [t] (by rw [hks]; rfl) (by rw [hks]; simp) (fun i x c hx hc=>?_) ?_ hpm (col_few L)⟩
 ·rw [hks] at hx
  cases i with
  | zero=>
   obtain rfl : q = x:=by simpa using hx
   obtain rfl : t = c:=by simpa using hc
   exact hq
  | succ i=>simp at hx
 ·exact resultOf_op (kids:=[t]) hk hO hl (by simp) (by simp) (fun x hx=>by obtain rfl:=List.mem_singleton.1 hx; have:=ht.wid; omega) hc
theorem res_2 {p q r : Pl} {db : List Ta} {t u : Ta} {L : List (List V)} {w wt wu : Nat} (hk : p.k ≠ 1) (hks : p.ks = [q,r]) (hc : p.cs.length ≤ 1048576) (ht : TabQ wt t) (hu : TabQ wu u) (hwt : wt ≤ 6) (hwu : wu ≤ 6) (hO : OpI p [t,u] L) (hl : L.length ≤ 1000000) (hL : RsW w L) (hf : fromV p [t.w,u.w] = (w : Int)) (hpm : (colL L).Perm (evP db p).rows)
  (hq : ResT db q t)
  (hr : ResT db r u) :
  TabQ w ⟨fromV p [t.w,u.w],colL L⟩ ∧ ResT db p ⟨fromV p [t.w,u.w],colL L⟩:=by
 refine ⟨tabQ_of hf hL,.mk [t,u] (by rw [hks]; rfl) (by rw [hks]; simp) (fun i x c hx hc=>?_) ?_ hpm (col_few L)⟩
 ·rw [hks] at hx
  match i with
  | 0=>
   obtain rfl : q = x:=by simpa using hx
   obtain rfl : t = c:=by simpa using hc
   exact hq
  | 1=>
   obtain rfl : r = x:=by simpa using hx
   obtain rfl : u = c:=by simpa using hc
   exact hr
  | i + 2=>simp at hx
 ·refine resultOf_op (kids:=[t,u]) hk hO hl (by simp) (by simp) (fun x hx=>?_) hc
  have h1:=ht.wid
  have h2:=hu.wid
  rcases List.mem_cons.1 hx with rfl | hx
  ·omega
  ·obtain rfl:=List.mem_singleton.1 hx; omega
theorem res_ok {ws : List Nat} {db : List Ta} (hd : DbW ws db) {p : Pl} {w : Nat} (h : Wt ws p w) : psz p ≤ 1048576 →
  ∃ t : Ta,TabQ w t ∧ t.rows.Perm (evP db p).rows ∧ ResT db p t:=by
 induction h with
 | @scan p j w hk ht hj hks=>
  intro hs
  obtain ⟨t,hdj⟩ : ∃ t,db[j]? = some t:=⟨_,List.getElem?_eq_getElem (by have:=(List.getElem?_eq_some_iff.1 hj).1; have:=hd.len; omega)⟩
  have hT:=hd.tab j t w hdj hj
  have hev : evP db p = t:=by
   rw [evP_0 hks,opT,if_pos hk,ht,List.getD_eq_getElem?_getD,show ((j : Int)).toNat = j from rfl,hdj]
   rfl
  rw [hev]
  exact ⟨t,⟨hT.wid,hT.row,hT.few⟩,List.Perm.refl _,.mk [] (by rw [hks]; rfl) (by rw [hks]; decide) (fun i x c hx hc=>by simp at hc) (resultOf_scan hk ht hdj) (by rw [hev]) hT.few⟩
 | @filter p q w e hk hks hes hq he ih=>
  intro hs
  obtain ⟨t,hT,hP,hF⟩:=ih (psz_kid (by rw [hks]; exact List.mem_cons_self ..) hs)
  have hwl:=hq.pos hd.wid
  have hrs : RsW w (t.rows.filter (holdsB e)):=rsw_sub List.filter_sublist hT.row
  have hpm : (colL (t.rows.filter (holdsB e))).Perm (evP db p).rows:=by
   rw [evP_1 hks,opT,if_neg (by omega),if_pos hk,hes]
   exact col_perm (hP.filter _)
  obtain ⟨h1,h2⟩:=res_1 (w:=w) (by omega) hks (psz_cs hs) hT hwl.2 (op_filter hk hes hT he) (by have:=List.length_filter_le (holdsB e) t.rows; have:=hT.few; omega) hrs (by
   unfold fromV
   rw [if_neg (by omega),if_neg (by omega),if_neg (by omega)]
   exact hT.wid) hpm hF
  exact ⟨_,h1,hpm,h2⟩
 | @project p q w hk hks hq hes hl ih=>
  intro hs
  obtain ⟨t,hT,hP,hF⟩:=ih (psz_kid (by rw [hks]; exact List.mem_cons_self ..) hs)
  have hwl:=hq.pos hd.wid
  have hpm : (colL (t.rows.map (prjR p.es))).Perm (evP db p).rows:=by
   rw [evP_1 hks,opT,if_neg (by omega),if_neg (by omega),if_pos hk]
   exact col_perm (hP.map _)
  obtain ⟨h1,h2⟩:=res_1 (w:=p.es.length) (by omega) hks (psz_cs hs) hT hwl.2 (op_project hk hT (by omega) hes) (by rw [List.length_map]; have:=hT.few; omega) (rsw_prj hT.row hes) (by
   unfold fromV
   rw [if_pos hk]) hpm hF
  exact ⟨_,h1,hpm,h2⟩
 | @join p q r wa wb e hk hks hes hq hr he hw ih1 ih2=>
  intro hs
  obtain ⟨t,hT,hP,hF⟩:=ih1 (psz_kid (by rw [hks]; exact List.mem_cons_self ..) hs)
  obtain ⟨u,hU,hQ,hG⟩:=ih2 (psz_kid (by rw [hks]; exact List.mem_cons_of_mem _ (List.mem_cons_self ..)) hs)
  have hwa:=hq.pos hd.wid
  have hwb:=hr.pos hd.wid
  have hWb:=(evalPlan_ok hd hr).1
  have hjl : ∀ o,(joiL o wb e t.rows u.rows).length ≤ 1000000:=fun o=>by
   have h1:=joiL_len o wb e u.rows t.rows
   have h2 : t.rows.length * (u.rows.length + 1) ≤ 400 * 401:=Nat.mul_le_mul hT.few (by have:=hU.few; omega)
   omega
  have hrs:=fun o=>rsw_joi hT.row hU.row o e
  have hfv : fromV p [t.w,u.w] = ((wa + wb : Nat) : Int):=by
   unfold fromV
   rw [if_neg (by omega),if_pos hk,hT.wid,hU.wid]
   simp
  have hO : OpI p [t,u] (joiL (p.k == 5) wb e t.rows u.rows):=by
   rcases hk with hk | hk
   ·rw [show (p.k == 5) = false by rw [hk]; rfl]
    exact op_join hk hes hT hU (by omega) hw he
   ·rw [show (p.k == 5) = true by rw [hk]; rfl]
    exact op_left hk hes hT hU (by omega) hw he
  have hpm : (colL (joiL (p.k == 5) wb e t.rows u.rows)).Perm (evP db p).rows:=by
   rw [evP_2 hks,opT,if_neg (by omega),if_neg (by omega),if_neg (by omega),if_pos hk,hes,hWb.wid]
   exact col_perm (joi_perm hP hQ)
  obtain ⟨h1,h2⟩:=res_2 (w:=wa + wb) (by omega) hks (psz_cs hs) hT hU hwa.2 hwb.2 hO (hjl _) (hrs _) hfv hpm hF hG
  exact ⟨_,h1,hpm,h2⟩
 | @union p q r w hk hks hq hr ih1 ih2=>
  intro hs
  obtain ⟨t,hT,hP,hF⟩:=ih1 (psz_kid (by rw [hks]; exact List.mem_cons_self ..) hs)
  obtain ⟨u,hU,hQ,hG⟩:=ih2 (psz_kid (by rw [hks]; exact List.mem_cons_of_mem _ (List.mem_cons_self ..)) hs)
  have hwa:=hq.pos hd.wid
  have hft:=hT.few
  have hfu:=hU.few
  have hpm : (colL (t.rows ++ u.rows)).Perm (evP db p).rows:=by
   rw [evP_2 hks,opT,if_neg (by omega),if_neg (by omega),if_neg (by omega),if_neg (by omega),if_pos hk]
   exact col_perm (hP.append hQ)
  obtain ⟨h1,h2⟩:=res_2 (w:=w) (by omega) hks (psz_cs hs) hT hU hwa.2 hwa.2 (op_union hk hft hfu) (by rw [List.length_append]; omega) (fun x hx=>(List.mem_append.1 hx).elim (hT.row x) (hU.row x)) (by
   unfold fromV
   rw [if_neg (by omega),if_neg (by omega),if_neg (by omega)]
   exact hT.wid) hpm hF hG
  exact ⟨_,h1,hpm,h2⟩
 | @distinct p q w hk hks hq ih=>
  intro hs
  obtain ⟨t,hT,hP,hF⟩:=ih (psz_kid (by rw [hks]; exact List.mem_cons_self ..) hs)
  have hwl:=hq.pos hd.wid
  have hW:=(evalPlan_ok hd hq).1
  have hdp:=dst_perm hW.row hW.asc hP
  have hdl : (dstL (evP db q).rows (evP db q).rows.length).length ≤ 400:=by
   have:=(dstL_sub (evP db q).rows (evP db q).rows.length (Nat.le_refl _)).length_le
   rw [List.take_length] at this
   have:=hW.few
   omega
  have hql:=hdp.length_eq
  have hrs : RsW w (dstQ t.rows):=fun x hx=>hT.row x ((dstQ_mem t.rows hT.row x).1 hx)
  have hpm : (colL (dstQ t.rows)).Perm (evP db p).rows:=by
   rw [evP_1 hks,opT,if_neg (by omega),if_neg (by omega),if_neg (by omega),if_neg (by omega),if_neg (by omega),if_pos hk]
   show (colL (dstQ t.rows)).Perm (dstL (evP db q).rows (evP db q).rows.length)
   unfold colL
   rw [if_pos (by omega)]
   exact hdp
  obtain ⟨h1,h2⟩:=res_1 (w:=w) (by omega) hks (psz_cs hs) hT hwl.2 (op_distinct hk hT (by omega)) (by omega) hrs (by
   unfold fromV
   rw [if_neg (by omega),if_neg (by omega),if_neg (by omega)]
   exact hT.wid) hpm hF
  exact ⟨_,h1,hpm,h2⟩
 | @group p q w hk hks hq hc hl ih=>
  intro hs
  obtain ⟨t,hT,hP,hF⟩:=ih (psz_kid (by rw [hks]; exact List.mem_cons_self ..) hs)
  have hwl:=hq.pos hd.wid
  have hW:=(evalPlan_ok hd hq).1
  have hgp:=grp_perm hc hW.row hP
  have hgr:=grp_rsw hW.row hW.few hc
  have hrs : RsW (p.cs.length + 1) (grpQ p.cs t.rows):=fun x hx=>hgr x (hgp.mem_iff.1 hx)
  have hgl : (grpQ p.cs t.rows).length ≤ 400:=by
   rw [hgp.length_eq]
   unfold grpL
   rw [List.length_zipWith]
   have hfi:=groG_inv p.cs (evP db q).rows (evP db q).rows.length (Nat.le_refl _)
   rw [List.take_length] at hfi
   have:=hfi.few
   have:=hW.few
   omega
  have hpm : (colL (grpQ p.cs t.rows)).Perm (evP db p).rows:=by
   rw [evP_1 hks,opT,if_neg (by omega),if_neg (by omega),if_neg (by omega),if_neg (by omega),if_neg (by omega),if_neg (by omega)]
   exact col_perm hgp
  obtain ⟨h1,h2⟩:=res_1 (w:=p.cs.length + 1) (by omega) hks (psz_cs hs) hT hwl.2 (op_group hk hT (by omega) (by omega) hc) (by omega) hrs (by
   unfold fromV
   rw [if_neg (by omega),if_neg (by omega),if_pos hk]
   rfl) hpm hF
  exact ⟨_,h1,hpm,h2⟩
end Go.Proofs.YtjngffbghkafaaaGreat
set_option maxHeartbeats 4000000
set_option maxRecDepth 100000
set_option linter.unusedVariables false
set_option linter.unusedSimpArgs false
namespace Go.Proofs.YtjngffbghkafaaaGreat
open Go.RowKit
theorem wd_wt {ws : List Nat} : ∀ (p : Pl) (d : Nat),wdV (natI ws) p d ≠ 0 → ∃ n : Nat,wdV (natI ws) p d = (n : Int) ∧ Wt ws p n:=by
 refine Pl.indA (fun p ih d h=>?_)
 have hf:=wd_fields h
 by_cases hk : p.k = 1
 ·obtain ⟨hr,h0,h1⟩:=wd_scan h hk
  have hks : p.ks = []:=List.length_eq_zero_iff.1 (by unfold fields at hf; omega)
  obtain ⟨j,hj⟩:=Int.eq_ofNat_of_zero_le h0
  have hjl : j < (natI ws).length:=by omega
  have hx:=List.getElem?_eq_getElem hjl
  obtain ⟨m,hm,hmx⟩:=natI_at hx
  refine ⟨m,?_,.scan hk hj hm hks⟩
  rw [hr]
  unfold scanV
  rw [if_pos ⟨h0,h1⟩,hj,show ((j : Int)).toNat = j from rfl,List.getD_eq_getElem?_getD,hx,Option.getD_some,hmx]
 ·obtain ⟨⟨hfi,hfit⟩,hr,hkid⟩:=wd_fit h hk
  obtain ⟨ms,hl,hp⟩:=list_of (P:=fun (x : Pl) (n : Nat)=>wdV (natI ws) x (d - 1) = (n : Int) ∧ Wt ws x n) p.ks (fun x hx=>ih x hx (d - 1) (hkid x hx))
  have hms : p.ks.map (fun x=>wdV (natI ws) x (d - 1)) = natI ms:=by
   apply List.ext_getElem?
   intro i
   show (p.ks.map (fun x=>wdV (natI ws) x (d - 1)))[i]? = (ms.map (fun n : Nat=>(n : Int)))[i]?
   rw [List.getElem?_map,List.getElem?_map]
   cases hx : p.ks[i]? with
   | none=>
    have : ms[i]? = none:=List.getElem?_eq_none (by have:=List.getElem?_eq_none_iff.1 hx; omega)
    rw [this]
    rfl
   | some x=>
    obtain ⟨n,hn⟩ : ∃ n,ms[i]? = some n:=⟨_,List.getElem?_eq_getElem (by have:=(List.getElem?_eq_some_iff.1 hx).1; omega)⟩
    rw [hn,Option.map_some,Option.map_some,(hp i x n hx hn).1]
  rw [hms] at hfit hr
  obtain ⟨m,hm,hw⟩:=wt_of hl hk (fun i x n hx hn=>(hp i x n hx hn).2) hfi hfit
  exact ⟨m,by rw [hr,hm],hw⟩
def fitB (db : List Ta) (p : Pl) : Prop:=dbOk db ∧ PV (natI (dbWs db)) p ≠ 0
noncomputable instance fitDec (db : List Ta) (p : Pl) : Decidable (fitB db p):=Classical.propDecidable _
theorem fit_wt {db : List Ta} {p : Pl} (h : fitB db p) : ∃ n : Nat,PV (natI (dbWs db)) p = (n : Int) ∧ Wt (dbWs db) p n ∧ DbW (dbWs db) db ∧ TabW n (evP db p):=by
 have hw:=PV_ok h.2
 have h2:=h.2
 rw [PV_t hw] at h2 ⊢
 obtain ⟨n,hn,hwt⟩:=wd_wt p 8 h2
 have hd:=dbW_of h.1 hw
 exact ⟨n,hn,hwt,hd,(evalPlan_ok hd hwt).1⟩
end Go.Proofs.YtjngffbghkafaaaGreat
