/-
  EvalPlan of the model. No condition.
-/
import Derived.Test.YtefldihjbaodnaaGreatJSDcVWid
import Derived.Test.YtefldihjbaodnaaGreatKSDca
import Derived.Test.YtefldihjbaodnaaGreatKSDcg
import Derived.Test.YtefldihjbaodnaaGreatJSVPeG
import Derived.Test.YtefldihjbaodnaaGreatJSVPlan
import Derived.Test.YtefldihjbaodnaaGreatJSVGo
import Derived.Test.YtefldihjbaodnaaGreatKSDch
import Derived.Test.YtefldihjbaodnaaGreatJSVNlA
import Derived.Test.YtefldihjbaodnaaGreatKSDcf
import Derived.Test.YtefldihjbaodnaaGreatKSVPiK
import Derived.Test.YtefldihjbaodnaaGreatKSVPiG
import Derived.Test.YtefldihjbaodnaaGreatJSVDst
set_option maxHeartbeats 4000000
set_option maxRecDepth 100000
set_option linter.unusedVariables false
set_option linter.unusedSimpArgs false
namespace Go.Proofs.YtefldihjbaodnaaGreat
open Go.RowKit
def dbOk (db : List Ta) : Prop:=∀ t,t ∈ db → tOk t
def dbWs (db : List Ta) : List Nat:=db.map (fun t=>t.w.toNat)
theorem widthsOf_t {db : List Ta} (hl : db.length ≤ 1000) (h : dbOk db) : Does Tryz.prog 34 [] [tasD db] (intsD (natI (dbWs db))) []:=by
 have hnl : (natI (dbWs db)).length = db.length:=by unfold natI dbWs; rw [List.length_map,List.length_map]
 have htk : ((natI (dbWs db)).map I).take db.length = (natI (dbWs db)).map I:=by rw [← hnl]; exact take_all I _
 refine Bg c_Z178 mixed (go1 trivial ?_)
 refine dw_for (c:=1) (l:=fun i=>[(0,tasD db),(3,.own 1000000 1 i),(4,I i),(1000000,.row 1 (((natI (dbWs db)).take i).map I))]) db.length (fun _=>True) 0 trivial ((wk_row 3 2000090 1 (by decide) (by decide) rfl rfl).trans (Wk.list [2000090] rfl rfl ?_)) (fun i hi _=>?_) (Nat.zero_le _)
 ·repeat' (first|(conv in hold _=>simp (disch:=omega) only [go_sem])|exact trivial|exact Sub.refl _|omega)
  first | exact rfl | exact ⟨rfl,rfl⟩
 ·have htm : (((natI (dbWs db)).take i).map I).take i = ((natI (dbWs db)).take i).map I:=take_map I (by rw [hnl]; exact hi)
  have htl : ((natI (dbWs db)).take i).length = i:=take_len (by rw [hnl]; exact hi)
  rcases at_or_end hi with ⟨t,ht,hlt⟩ | rfl
  ·have hok:=h t (List.mem_of_getElem? ht)
   have hv:=validTable_ok t (tOk_sz hok)
   rw [decide_eq_true hok] at hv
   obtain ⟨w,hw,hw6,_⟩:=tOk_nat hok
   have hnx : (natI (dbWs db)).take (i + 1) = (natI (dbWs db)).take i ++ [t.w]:=take_next (by
    unfold natI dbWs
    rw [List.getElem?_map,List.getElem?_map,ht]
    show some ((t.w.toNat : Nat) : Int) = some t.w
    rw [hw]
    rfl)
   refine go1 @ht ?_
   refine Uc (cj2 @ht @htm) (hv) (go1 (cj2 @ht @htm) ?_)
   refine ⟨hlt,trivial,Wk.list [2000026] rfl rfl ?_⟩
   repeat' (first|(conv in hold _=>simp (disch:=omega) only [go_sem,hnx,htm])|exact trivial|exact Sub.refl _|omega)
   rw [List.map_append]
   rfl
  ·have e1 : (natI (dbWs db)).take db.length = natI (dbWs db):=List.take_of_length_le (by rw [hnl]; exact Nat.le_refl _)
   rw [e1]
   refine go1F trivial ?_
   refine fin_wk (wk_frz 2 1000000 (by decide) (by decide) rfl ?_) ?_
   rotate_left
   (conv in hold _=>simp (disch:=omega) only [go_sem,htk,hnl,List.length_map,Nat.le_refl])
   ·refine fin_L [] ?_ ?_ rfl ?_
    repeat' (first|(conv in hold _=>simp (disch:=omega) only [go_sem])|exact trivial|exact Sub.refl _|omega)
   ·exact ints_pur _
theorem widthsOf_f {db : List Ta} (hl : db.length ≤ 1000) (hsz : ∀ t,t ∈ db → rsz t.rows ≤ 1048576) (h : ¬ dbOk db) : Does Tryz.prog 34 [] [tasD db] (intsD (natI [])) []:=by
 refine Bg c_Z178 mixed (go1 trivial ?_)
 refine dw_for (c:=1) (l:=fun i=>[(0,tasD db),(3,.own 1000000 1 i),(4,I i),(1000000,.row 1 (((natI (dbWs db)).take i).map I))]) db.length (fun i=>∀ (j : Nat) (t : Ta),j < i → db[j]? = some t → tOk t) 0 (fun j t hj=>by omega) ((wk_row 3 2000090 1 (by decide) (by decide) rfl rfl).trans (Wk.list [2000090] rfl rfl ?_)) (fun i hi hJ=>?_) (Nat.zero_le _)
 ·repeat' (first|(conv in hold _=>simp (disch:=omega) only [go_sem])|exact trivial|exact Sub.refl _|omega)
  first | exact rfl | exact ⟨rfl,rfl⟩
 ·have hnl : (natI (dbWs db)).length = db.length:=by unfold natI dbWs; rw [List.length_map,List.length_map]
  have htm : (((natI (dbWs db)).take i).map I).take i = ((natI (dbWs db)).take i).map I:=take_map I (by rw [hnl]; exact hi)
  have htl : ((natI (dbWs db)).take i).length = i:=take_len (by rw [hnl]; exact hi)
  rcases at_or_end hi with ⟨t,ht,hlt⟩ | rfl
  ·have hv:=validTable_ok t (hsz t (List.mem_of_getElem? ht))
   by_cases hok : tOk t
   ·rw [decide_eq_true hok] at hv
    obtain ⟨w,hw,hw6,_⟩:=tOk_nat hok
    have hnx : (natI (dbWs db)).take (i + 1) = (natI (dbWs db)).take i ++ [t.w]:=take_next (by
     unfold natI dbWs
     rw [List.getElem?_map,List.getElem?_map,ht]
     show some ((t.w.toNat : Nat) : Int) = some t.w
     rw [hw]
     rfl)
    refine go1 @ht ?_
    refine Uc (cj2 @ht @htm) (hv) (go1 (cj2 @ht @htm) ?_)
    refine ⟨hlt,fun j u hj hu=>?_,Wk.list [2000026] rfl rfl ?_⟩
    ·by_cases hji : j = i
     ·subst hji
      rw [ht] at hu
      cases hu
      exact hok
     ·exact hJ j u (by omega) hu
    ·repeat' (first|(conv in hold _=>simp (disch:=omega) only [go_sem,hnx,htm])|exact trivial|exact Sub.refl _|omega)
     rw [List.map_append]
     rfl
   ·rw [decide_eq_false hok] at hv
    refine go1 @ht ?_
    refine Uc trivial (hv) (go1 trivial ?_)
    exact Sub.nul 1
  ·refine absurd (fun t ht=>?_) h
   obtain ⟨j,hj⟩:=List.mem_iff_getElem?.1 ht
   exact hJ j t (List.getElem?_eq_some_iff.1 hj).1 hj
theorem dbW_of {db : List Ta} (h : dbOk db) (hw : wsOk (natI (dbWs db))) : DbW (dbWs db) db:=by
 refine ⟨by unfold dbWs; rw [List.length_map],fun j t w hj hjw=>?_,?_,fun w hm=>?_⟩
 ·obtain ⟨n,hn,hn6,hr,ha,hl⟩:=tOk_nat (h t (List.mem_of_getElem? hj))
  have : w = n:=by
   unfold dbWs at hjw
   rw [List.getElem?_map,hj] at hjw
   have h1 : t.w.toNat = w:=Option.some.inj hjw
   omega
  subst this
  exact ⟨hn,hr,by omega,ha⟩
 ·have:=hw.1.2
  unfold natI at this
  rw [List.length_map] at this
  exact this
 ·obtain ⟨j,hj⟩:=List.mem_iff_getElem?.1 hm
  have:=hw.2 j w (natI_of hj)
  omega
def fitP (p : Pl) (db : List Ta) (n : Nat) : Prop:=dbOk db ∧ wsOk (natI (dbWs db)) ∧ n ≠ 0 ∧ Wt (dbWs db) p n
end Go.Proofs.YtefldihjbaodnaaGreat
set_option maxHeartbeats 4000000
set_option maxRecDepth 100000
set_option linter.unusedVariables false
set_option linter.unusedSimpArgs false
namespace Go.Proofs.YtefldihjbaodnaaGreat
open Go.RowKit
theorem randomWidths_own {bs : List Nat} (hs : Src bs) (p : Nat) (hp : p < 100000000) : ∃ (ws : List Int) (q : Nat),(Does Tryz.prog 57 [rdD bs p] [.ref 1000000 0] (.own 1000001 1 ws.length) [rdD bs q,wrD ws] ∧ (2 ≤ ws.length ∧ ws.length ≤ 3) ∧ ∀ (i : Nat) (w : Int),ws[i]? = some w → 1 ≤ w ∧ w ≤ 2) ∧ p ≤ q ∧ q ≤ p + 10:=by
 obtain ⟨k,hk,k0,k1,_⟩:=pick_ok hs p (by omega) 2 (by omega)
 have hk1:=k1 (by omega)
 obtain ⟨m,rfl⟩:=Int.eq_ofNat_of_zero_le k0
 obtain ⟨ws,ps,hl,h0,hd,hp0,hp1⟩:=draws (fun p (w : Int) q=>q = p + 1 ∧ DPick bs p 2 (w - 1) ∧ 1 ≤ w ∧ w ≤ 2) 900000000 1 (fun p hp=>by
  obtain ⟨v,hv,v0,v1,_⟩:=pick_ok hs p (by omega) 2 (by omega)
  have hv1:=v1 (by omega)
  refine ⟨v + 1,p + 1,⟨rfl,by rw [show v + 1 - 1 = v by omega]; exact hv,by omega,by omega⟩,by omega,by omega⟩) (2 + m) (p + 1) (by omega)
 refine ⟨ws,ps (2 + m),⟨?_,by omega,fun i w hi=>(hd i w hi).2.2⟩,by omega,by omega⟩
 refine Bk c_Z91 mixed 1 (go1 trivial ?_)
 refine UcR [1000000] trivial (hk) (go1 trivial ?_)
 refine dw_for (c:=2) (l:=fun i=>[(0,.ref 1000000 0),(3,.own 1000001 1 i),(4,I (2 + (m : Int) - i)),(1000000,rdD bs (ps i)),(1000001,.row 1 ((ws.take i).map I))]) (2 + m) (fun _=>True) 0 trivial ((wk_row 3 2000018 1 (by decide) (by decide) rfl rfl).trans (Wk.list [1000000,2000018] rfl rfl ?_)) (fun i hi _=>?_) (Nat.zero_le _)
 ·rw [h0]
  repeat' (first|(conv in hold _=>simp (disch:=omega) only [go_sem])|exact trivial|exact Sub.refl _|omega)
  exact congrArg (fun n=>D.v (Value.int .i64 n)) (by omega)
 ·have hlt:=take_len (vs:=ws) (i:=i) (by omega)
  have hmt:=take_map I (vs:=ws) (i:=i) (by omega)
  by_cases hil : i < 2 + m
  ·obtain ⟨w,hw⟩ : ∃ w,ws[i]? = some w:=⟨ws[i],List.getElem?_eq_getElem (by omega)⟩
   obtain ⟨x1,x2,x3,x4⟩:=hd i w hw
   have hnx:=take_next hw
   have hw1 : 1 + (w - 1) = w:=by omega
   refine go1 trivial ?_
   refine UcR [1000000] @hw1 (x2) (go1 @hw1 ?_)
   refine ⟨by omega,trivial,Wk.list [1000000,2000018] rfl rfl ?_⟩
   repeat' (first|(conv in hold _=>simp (disch:=omega) only [go_sem,hw1,x1])|exact trivial|exact Sub.refl _|omega)
   refine ⟨congrArg (fun n=>D.v (Value.int .i64 n)) (by omega),?_⟩
   rw [hmt,hnx,List.map_append]
   rfl
  ·obtain rfl : i = 2 + m:=by omega
   have e1 : ws.take (2 + m) = ws:=List.take_of_length_le (by omega)
   have e2 : (ws.map I).take (2 + m) = ws.map I:=List.take_of_length_le (by rw [List.length_map]; omega)
   have hl2 : ws.length = 2 + m:=hl
   rw [hl2]
   refine go1 @e1 ?_
   refine fin_L [1000000,1000001] ?_ ?_ rfl ?_
   repeat' (first|(conv in hold _=>simp (disch:=omega) only [go_sem,e1,e2])|exact trivial|exact Sub.refl _|omega)
   all_goals (try rw [e2])
theorem randomPlan_own {bs : List Nat} (hs : Src bs) {ws : List Int} (hw : wsOk ws) (p : Nat) (hp : p < 100000000) : ∃ (x : Pl) (q : Nat),Does Tryz.prog 98 [rdD bs p,wrD ws] [.ref 1000000 0,.own 1000001 1 ws.length] (rootD 1000002 1000003 x) [rdD bs q,wrD ws,esR x,csR x] ∧ p ≤ q ∧ q ≤ p + 21000 ∧ psz x ≤ 11000 ∧ rb x ≤ 60 ∧ (x.k = 6 → x.es = []):=by
 obtain ⟨k,hk,k0,k1,_⟩:=pick_ok hs p (by omega) 4 (by omega)
 have hk1:=k1 (by omega)
 obtain ⟨m,rfl⟩:=Int.eq_ofNat_of_zero_le k0
 obtain ⟨x,q,j',u',⟨hD,hO⟩,hq0,hq1,hz,_,_,hrb,h66⟩:=plan_any hs hw (m + 1) (p + 1) (by omega) (by omega)
 have hm1 : ((m + 1 : Nat) : Int) = 1 + (m : Int):=by omega
 unfold DPlan at hD
 unfold OPlan at hO
 rw [hm1] at hD hO
 have hg : gnD ws 1 1 = .obj [.ref 1000001 0,.own 1000002 1 ws.length,I 1,I 1]:=rfl
 rw [hg] at hD hO
 obtain ⟨kk,hkk,_⟩:=pick_ok hs q (by omega) 2 (by omega)
 by_cases hkk0 : kk = 0
 ·subst hkk0
  obtain ⟨n,hn,hwx⟩:=wid_of hw x (by omega)
  obtain ⟨e,q2,hce,he0,he1,hez⟩:=randomCondition_ok hs n (by omega) (q + 1) (by omega)
  have hf:=filterOf_own e x
  have hfz : psz (.mk 2 0 [e] [] [x]) = esz e + 0 + (1 + psz x):=by rw [psz_one,eszL_1]; rfl
  refine ⟨.mk 2 0 [e] [] [x],q2,?_,by omega,by omega,by omega,by rw [rb_1 (q:=x) rfl]; exact Nat.le_trans hrb (cap_60 _ _),fun h=>absurd h (by decide : ¬ (2 : Int) = 6)⟩
  refine Bk c_Z129 mixed 2 (go1 trivial ?_)
  refine UcR [1000000] trivial (hk) (go1 trivial ?_)
  refine UcR [2000010,1000000,1000001] trivial (hD) (go1 trivial ?_)
  refine UcR [1000000] trivial (hkk) (go1 trivial ?_)
  refine UcR [1000001] trivial (hwx) (go1 trivial ?_)
  refine UcR [1000000] trivial (hce) (go1 trivial ?_)
  refine UcR [3000001,3000002] trivial (hf) (go1 trivial ?_)
  refine fin_L [1000000,1000001,3000001,3000002] ?_ ?_ rfl ?_
  repeat' (first|(conv in hold _=>simp (disch:=omega) only [go_sem])|exact trivial|exact Sub.refl _|omega)
 ·refine ⟨x,q + 1,?_,by omega,by omega,by omega,Nat.le_trans hrb (cap_60 _ _),h66⟩
  refine Bk c_Z129 mixed 2 (go1 trivial ?_)
  refine UcR [1000000] trivial (hk) (go1 trivial ?_)
  refine UcR [2000010,1000000,1000001,3000001,3000002] trivial (hO) (go1 trivial ?_)
  refine UcR [1000000] trivial (hkk) (go1 trivial ?_)
  refine fin_L [1000000,1000001,3000001,3000002] ?_ ?_ rfl ?_
  repeat' (first|(conv in hold _=>simp (disch:=omega) only [go_sem])|exact trivial|exact Sub.refl _|omega)
end Go.Proofs.YtefldihjbaodnaaGreat
set_option maxHeartbeats 4000000
set_option maxRecDepth 100000
set_option linter.unusedVariables false
set_option linter.unusedSimpArgs false
namespace Go.Proofs.YtefldihjbaodnaaGreat
open Go.RowKit
theorem filteredRows_p (rs : List (List V)) (t : TypeId) (d : D) (hp : d.pur = true) : Does Tryz.prog 112 [] [rowsD rs,.ifc t d] (.fn 155 [.ptr [rowsD rs],.ptr [.ifc t d]]) []:=by
 have hr:=fun L=>ren_pure L _ hp
 refine Bg c_Z78 mixed (go1F (cj2 @hp @hr) ?_)
 refine fin_wk (wk_fro 4 2000002 (by decide) (by decide) rfl ?_) ?_
 rotate_left
 (conv in hold _=>simp (disch:=omega) only [go_sem,hp,hr])
 ·refine fin_wk (wk_fro 4 2000003 (by decide) (by decide) rfl ?_) ?_
  rotate_left
  (conv in hold _=>simp (disch:=omega) only [go_sem,hp,hr])
  ·refine fin_L [] ?_ ?_ rfl ?_
   repeat' (first|(conv in hold _=>simp (disch:=omega) only [go_sem,hp,hr])|exact trivial|exact Sub.refl _|omega)
  ·simp only [go_sem,hp]
 ·rfl
def OpI (p : Pl) (kids : List Ta) (L : List (List V)) : Prop:=∃ f caps,enters Tryz.prog f = true ∧ D.purL caps = true ∧ Does Tryz.prog 67 [] [pD p,tasD kids] (.fn f caps) [] ∧ Yields Tryz.prog f caps (L.map tupR)
structure TabQ (w : Nat) (t : Ta) : Prop where
 wid : t.w = (w : Int)
 row : RsW w t.rows
 few : t.rows.length ≤ 400
theorem op_filter {p : Pl} {a : Ta} {w : Nat} {ex : E} (hk : p.k = 2) (hes : p.es = [ex]) (ha : TabQ w a) (he : eOk ex w 8) : OpI p [a] (a.rows.filter (holdsB ex)):=by
 obtain ⟨t,e0,hd,hp,h1⟩:=termOf_w he
 have h2:=filteredRows_p a.rows t e0 hp
 have hr:=fun L=>ren_pure L _ hp
 have hY:=filteredRows_yields a.rows (by have:=ha.few; omega) ha.row ex he
 rw [hd] at hY
 refine ⟨_,_,by kernel_rfl,rfl,?_,hY⟩
 refine Bg c_Z118 mixed (go1 (cj2 @hk @hes) ?_)
 refine Uc (cj4 @hk @hes @hp @hr) (h1) (go1 (cj4 @hk @hes @hp @hr) ?_)
 exact Uc (cj2 @hp @hr) (h2) (go0 (cj2 @hp @hr))
theorem op_project {p : Pl} {a : Ta} {w : Nat} (hk : p.k = 3) (ha : TabQ w a) (hl : p.es.length ≤ 1000) (hes : ∀ e,e ∈ p.es → eOk e w 8) : OpI p [a] (a.rows.map (prjR p.es)):=by
 have h2:=projectedRows_ok a.rows p.es hl hes
 have hY:=projectedRows_yields a.rows (by have:=ha.few; omega) ha.row p.es hl hes
 refine ⟨_,_,by kernel_rfl,rfl,?_,hY⟩
 refine Bg c_Z118 mixed (go1 @hk ?_)
 exact Uc trivial (h2) (go0 trivial)
theorem op_join {p : Pl} {a b : Ta} {wa wb : Nat} {ex : E} (hk : p.k = 4) (hes : p.es = [ex]) (ha : TabQ wa a) (hb : TabQ wb b) (hw0 : 0 < wb) (hw : wa + wb ≤ 6) (he : eOk ex ((wa : Int) + (wb : Int)) 8) : OpI p [a,b] (joiL false wb ex a.rows b.rows):=by
 obtain ⟨t,e0,hd,hp,h1⟩:=termOf_w (w:=wa + wb) (e:=ex) (by rw [Int.natCast_add]; exact he)
 have hr:=fun L=>ren_pure L _ hp
 have hpx:=tD_pur he
 have h1x : (tD ex).one = true:=by rw [hd]; rfl
 have hM : MatchI 116 (.agg (maD wb b.rows ex)) 160 (fun r=>[.ptr [rowD r],.ptr (maD wb b.rows ex)]) (fun r=>outL false wb ex r b.rows) a.rows:=
  ⟨by kernel_rfl,by unfold maD; rw [hd]; simp only [go_sem,hp],by kernel_rfl,fun _=>rfl,fun r hr=>matches_ok r wb b.rows ex hpx h1x,fun r hr=>by
   have:=matches_yields r (ha.row r hr) b.rows hb.row (by have:=hb.few; omega) hw0 (by omega) ex he
   exact this⟩
 have h2:=joinedRows_ok a.rows 116 (.agg (maD wb b.rows ex)) hM.pur
 have hY:=joinedRows_yields hM (by have:=ha.few; omega)
 refine ⟨_,_,by kernel_rfl,rfl,?_,hY⟩
 have hbw:=hb.wid
 refine Bg c_Z118 mixed (go1 (cj3 @hk @hes @hbw) ?_)
 refine Uc (cj5 @hk @hes @hp @hr @hbw) (h1) (go1 (cj5 @hk @hes @hp @hr @hbw) ?_)
 exact Uc (cj3 @hp @hr @hd) (h2) (go0 (cj3 @hp @hr @hd))
theorem op_left {p : Pl} {a b : Ta} {wa wb : Nat} {ex : E} (hk : p.k = 5) (hes : p.es = [ex]) (ha : TabQ wa a) (hb : TabQ wb b) (hw0 : 0 < wb) (hw : wa + wb ≤ 6) (he : eOk ex ((wa : Int) + (wb : Int)) 8) : OpI p [a,b] (joiL true wb ex a.rows b.rows):=by
 obtain ⟨t,e0,hd,hp,h1⟩:=termOf_w (w:=wa + wb) (e:=ex) (by rw [Int.natCast_add]; exact he)
 have hr:=fun L=>ren_pure L _ hp
 have hpx:=tD_pur he
 have h1x : (tD ex).one = true:=by rw [hd]; rfl
 have hM : MatchI 117 (.agg (maD wb b.rows ex)) 163 (fun r=>[.ptr (maD wb b.rows ex),.ptr [rowD r]]) (fun r=>outL true wb ex r b.rows) a.rows:=
  ⟨by kernel_rfl,by unfold maD; rw [hd]; simp only [go_sem,hp],by kernel_rfl,fun _=>rfl,fun r hr=>matchesOrNulls_ok r wb b.rows ex hpx h1x,fun r hr=>by
   have:=matchesOrNulls_yields r (ha.row r hr) b.rows hb.row (by have:=hb.few; omega) hw0 (by omega) ex he
   exact this⟩
 have h2:=joinedRows_ok a.rows 117 (.agg (maD wb b.rows ex)) hM.pur
 have hY:=joinedRows_yields hM (by have:=ha.few; omega)
 refine ⟨_,_,by kernel_rfl,rfl,?_,hY⟩
 have hbw:=hb.wid
 refine Bg c_Z118 mixed (go1 (cj3 @hk @hes @hbw) ?_)
 refine Uc (cj5 @hk @hes @hp @hr @hbw) (h1) (go1 (cj5 @hk @hes @hp @hr @hbw) ?_)
 exact Uc (cj3 @hp @hr @hd) (h2) (go0 (cj3 @hp @hr @hd))
theorem op_union {p : Pl} {a b : Ta} (hk : p.k = 6) (ha : a.rows.length ≤ 400) (hb : b.rows.length ≤ 400) : OpI p [a,b] (a.rows ++ b.rows):=by
 have h1:=concatR_own a.rows b.rows (by omega)
 have h2:=Values_rows (a.rows ++ b.rows)
 have hY:=values_rows (a.rows ++ b.rows) (by rw [List.length_append]; omega)
 have htk : ((a.rows ++ b.rows).map rowD).take (a.rows.length + b.rows.length) = (a.rows ++ b.rows).map rowD:=by rw [← List.length_append]; exact take_all rowD _
 have hll : (a.rows ++ b.rows).length = a.rows.length + b.rows.length:=List.length_append
 refine ⟨_,_,by kernel_rfl,rfl,?_,hY⟩
 refine Bg c_Z118 mixed (go1C @hk ?_)
 refine go1 @hk ?_
 refine UcR [3000001] trivial (h1) (go1C trivial ?_)
 refine s_pre (pre_frz (t:=73) (g:=3000001) (by decide) (by decide) rfl ?_) ?_
 rotate_left
 refine go1 (cj2 @htk @hll) ?_
 ·exact Uc trivial (h2) (go0 trivial)
 ·exact rows_pur _
theorem op_distinct {p : Pl} {a : Ta} {w : Nat} (hk : p.k = 7) (ha : TabQ w a) (hw : w < 1000) : OpI p [a] (dstQ a.rows):=by
 have h2:=distinctRows_p a.rows
 have hY:=distinctRows_yields hw a.rows ha.row ha.few
 refine ⟨_,_,by kernel_rfl,rfl,?_,hY⟩
 refine Bg c_Z118 mixed (go1 @hk ?_)
 exact Uc trivial (h2) (go0 trivial)
theorem op_group {p : Pl} {a : Ta} {w : Nat} (hk : p.k = 8) (ha : TabQ w a) (hw : w < 1000) (hl : p.cs.length ≤ 900) (hc : ∀ c,c ∈ p.cs → 0 ≤ c ∧ c < w) : OpI p [a] (grpQ p.cs a.rows):=by
 have h2:=groupedRows_ok a.rows p.cs
 have hY:=groupedRows_yields hw a.rows ha.row ha.few p.cs hl hc
 refine ⟨_,_,by kernel_rfl,rfl,?_,hY⟩
 refine Bg c_Z118 mixed (go1 @hk ?_)
 exact Uc trivial (h2) (go0 trivial)
end Go.Proofs.YtefldihjbaodnaaGreat
set_option maxHeartbeats 4000000
set_option maxRecDepth 100000
set_option linter.unusedVariables false
set_option linter.unusedSimpArgs false
namespace Go.Proofs.YtefldihjbaodnaaGreat
open Go.RowKit
theorem es_pur (es : List E) : D.purL (es.map eD) = true:=exprs_pur es
theorem take_allL {α : Type} (f : α → D) (l : List α) {n : Nat} (h : n = l.length) : (l.map f).take n = l.map f:=List.take_of_length_le (by rw [List.length_map]; omega)
theorem rb_kind {x : Pl} {v : Int} (hv : v ∈ [(0 : Int),9,1,4]) (h : rb x ≤ 60) (h6 : x.k = 6 → x.es = []) (hf : fields (.mk v x.t x.es x.cs x.ks)) : rb (.mk v x.t x.es x.cs x.ks) ≤ 60:=by
 rw [rb_eq] at h ⊢
 show rbF v (rbL x.ks) ≤ 60
 obtain ⟨f1,f2,_,_,f5,_⟩:=hf
 change 1 ≤ v ∧ v ≤ 8 at f1
 change v = 1 → x.ks.length = 0 at f2
 change v = 2 ∨ v = 4 ∨ v = 5 → x.es.length = 1 at f5
 simp only [List.mem_cons,List.not_mem_nil,or_false] at hv
 rcases hv with rfl | rfl | rfl | rfl
 ·omega
 ·omega
 ·rw [List.length_eq_zero_iff.1 (f2 rfl)]
  decide
 ·have hk : x.k ≠ 6:=fun hk=>by
   have:=f5 (Or.inr (Or.inl rfl))
   rw [h6 hk] at this
   cases this
  generalize rbL x.ks = l at h ⊢
  match l with
  | []=>decide
  | [a]=>exact h
  | a :: b :: _=>
   have h' : (if x.k = 6 then a + b else a * (b + 1)) ≤ 60:=h
   rw [if_neg hk] at h'
   show (if (4 : Int) = 6 then a + b else a * (b + 1)) ≤ 60
   rw [if_neg (by decide)]
   exact h'
theorem anyPlan_ok {bs : List Nat} (hs : Src bs) {ws : List Int} (hw : wsOk ws) (p : Nat) (hp : p < 90000000) : ∃ (x : Pl) (q : Nat),Does Tryz.prog 58 [rdD bs p,wrD ws] [.ref 1000000 0,.own 1000001 1 ws.length] (pD x) [rdD bs q,wrD ws] ∧ p ≤ q ∧ q ≤ p + 23000 ∧ psz x ≤ 11100 ∧ (fields x → rb x ≤ 60):=by
 obtain ⟨x,q,hx,hq0,hq1,hz,hrb,h66⟩:=randomPlan_own hs hw p (by omega)
 obtain ⟨k,hk,k0,k1,_⟩:=pick_ok hs q (by omega) 18 (by omega)
 have t1:=take_allL eD x.es rfl
 have t2:=take_allL I x.cs rfl
 rw [psz_eq] at hz
 by_cases hk0 : k = 0
 ·obtain ⟨v,hv,hvm⟩:=one_ok hs (q + 1) (by omega) [0,9,1,4] (by decide) (by decide)
  refine ⟨.mk v x.t x.es x.cs x.ks,q + 2,?_,by omega,by omega,by rw [psz_eq]; exact Nat.le_trans hz (by omega),fun hf=>rb_kind hvm hrb h66 hf⟩
  refine Bk c_Z184 mixed 2 (go1F trivial ?_)
  refine UcR [1000000,1000001,3000001,3000002] trivial (hx) (go1F trivial ?_)
  refine UcR [1000000] trivial (hk) (go1F trivial ?_)
  refine UcR [1000000] trivial (hv) (go1F trivial ?_)
  refine fin_wk (wk_frzO 2000004 3000001 (by decide) (by decide) rfl (by decide) rfl ?_) ?_
  rotate_left
  (conv in hold _=>simp (disch:=omega) only [go_sem,t1,Nat.le_refl])
  refine fin_wk (wk_frzO 2000004 3000002 (by decide) (by decide) rfl (by decide) rfl ?_) ?_
  rotate_left
  (conv in hold _=>simp (disch:=omega) only [go_sem,t2,Nat.le_refl])
  all_goals first
   | exact es_pur _
   | exact ints_pur _
   | skip
  refine fin_L [1000000,1000001] ?_ ?_ rfl ?_
  repeat' (first|(conv in hold _=>simp (disch:=omega) only [go_sem])|exact trivial|exact Sub.refl _|omega)
 by_cases hk1 : k = 1
 ·obtain ⟨v,hv,_⟩:=one_ok hs (q + 1) (by omega) [-1,4,1] (by decide) (by decide)
  refine ⟨.mk x.k v x.es x.cs x.ks,q + 2,?_,by omega,by omega,by rw [psz_eq]; exact Nat.le_trans hz (by omega),fun _=>by rw [rb_eq] at hrb ⊢; exact hrb⟩
  refine Bk c_Z184 mixed 2 (go1F trivial ?_)
  refine UcR [1000000,1000001,3000001,3000002] trivial (hx) (go1F trivial ?_)
  refine UcR [1000000] trivial (hk) (go1F trivial ?_)
  refine UcR [1000000] trivial (hv) (go1F trivial ?_)
  refine fin_wk (wk_frzO 2000004 3000001 (by decide) (by decide) rfl (by decide) rfl ?_) ?_
  rotate_left
  (conv in hold _=>simp (disch:=omega) only [go_sem,t1,Nat.le_refl])
  refine fin_wk (wk_frzO 2000004 3000002 (by decide) (by decide) rfl (by decide) rfl ?_) ?_
  rotate_left
  (conv in hold _=>simp (disch:=omega) only [go_sem,t2,Nat.le_refl])
  all_goals first
   | exact es_pur _
   | exact ints_pur _
   | skip
  refine fin_L [1000000,1000001] ?_ ?_ rfl ?_
  repeat' (first|(conv in hold _=>simp (disch:=omega) only [go_sem])|exact trivial|exact Sub.refl _|omega)
 by_cases hk2 : k = 2
 ·obtain ⟨v,hv,_⟩:=one_ok hs (q + 1) (by omega) [0,9] (by decide) (by decide)
  have t4 : (x.cs.map I ++ [I v]) = (x.cs ++ [v]).map I:=by rw [List.map_append]; rfl
  have t5 : ((x.cs ++ [v]).map I).take (x.cs.length + 1) = (x.cs ++ [v]).map I:=take_allL I _ (by rw [List.length_append]; rfl)
  refine ⟨.mk x.k x.t x.es (x.cs ++ [v]) x.ks,q + 2,?_,by omega,by omega,?_,fun _=>by rw [rb_eq] at hrb ⊢; exact hrb⟩
  ·refine Bk c_Z184 mixed 2 (go1F trivial ?_)
   refine UcR [1000000,1000001,3000001,3000002] trivial (hx) (go1F trivial ?_)
   refine UcR [1000000] trivial (hk) (go1F trivial ?_)
   refine UcR [1000000] @t2 (hv) (go1F @t2 ?_)
   refine fin_wk (wk_frzO 2000004 3000001 (by decide) (by decide) rfl (by decide) rfl ?_) ?_
   rotate_left
   (conv in hold _=>simp (disch:=omega) only [go_sem,t1,Nat.le_refl])
   refine fin_wk (wk_frzO 2000004 2000031 (by decide) (by decide) rfl (by decide) rfl ?_) ?_
   rotate_left
   (conv in hold _=>simp (disch:=omega) only [go_sem,t2,t4,t5,Nat.le_refl])
   all_goals first
    | exact es_pur _
    | exact ints_pur _
    | (show D.purL (x.cs.map I ++ [I v]) = true; rw [t4]; exact ints_pur _)
    | skip
   refine fin_L [1000000,1000001] ?_ ?_ rfl ?_
   repeat' (first|(conv in hold _=>simp (disch:=omega) only [go_sem])|exact trivial|exact Sub.refl _|omega)
  ·rw [psz_eq]
   show eszL x.es + (x.cs ++ [v]).length + pszL x.ks ≤ _
   rw [List.length_append,List.length_singleton]
   omega
 by_cases hk3 : k = 3
 ·have hel:=eszL_len x.es
  obtain ⟨e,q2,hae,he0,he1,hez⟩:=anyExpr_ok hs 2 (by omega) (q + 1) (by omega)
  have t4 : (x.es.map eD ++ [.agg [I e.k,I e.c,Bo e.v.b,I e.v.n,.sl 5 (e.ks.map eD)]]) = (x.es ++ [e]).map eD:=by rw [← eD_eq,List.map_append]; rfl
  have t5 : ((x.es ++ [e]).map eD).take (x.es.length + 1) = (x.es ++ [e]).map eD:=take_allL eD _ (by rw [List.length_append]; rfl)
  refine ⟨.mk x.k x.t (x.es ++ [e]) x.cs x.ks,q2,?_,by omega,by omega,?_,fun _=>by rw [rb_eq] at hrb ⊢; exact hrb⟩
  ·refine Bk c_Z184 mixed 2 (go1F trivial ?_)
   refine UcR [1000000,1000001,3000001,3000002] trivial (hx) (go1F trivial ?_)
   refine UcR [1000000] trivial (hk) (go1F trivial ?_)
   refine UcR [1000000] @t1 (hae) (go1F @t1 ?_)
   refine fin_wk (wk_frzO 2000004 2000040 (by decide) (by decide) rfl (by decide) rfl ?_) ?_
   rotate_left
   (conv in hold _=>simp (disch:=omega) only [go_sem,t1,t4,t5,Nat.le_refl])
   refine fin_wk (wk_frzO 2000004 3000002 (by decide) (by decide) rfl (by decide) rfl ?_) ?_
   rotate_left
   (conv in hold _=>simp (disch:=omega) only [go_sem,t2,Nat.le_refl])
   all_goals first
    | exact es_pur _
    | exact ints_pur _
    | (rw [t4]; exact es_pur _)
    | skip
   refine fin_L [1000000,1000001] ?_ ?_ rfl ?_
   repeat' (first|(conv in hold _=>simp (disch:=omega) only [go_sem])|exact trivial|exact Sub.refl _|omega)
  ·rw [psz_eq]
   show eszL (x.es ++ [e]) + x.cs.length + pszL x.ks ≤ _
   rw [eszL_append,eszL_1]
   omega
 ·refine ⟨x,q + 1,?_,by omega,by omega,by rw [psz_eq]; omega,fun _=>hrb⟩
  refine Bk c_Z184 mixed 2 (go1F trivial ?_)
  refine UcR [1000000,1000001,3000001,3000002] trivial (hx) (go1F trivial ?_)
  refine UcR [1000000] trivial (hk) (go1F trivial ?_)
  refine fin_wk (wk_frzO 2000004 3000001 (by decide) (by decide) rfl (by decide) rfl ?_) ?_
  rotate_left
  (conv in hold _=>simp (disch:=omega) only [go_sem,t1,Nat.le_refl])
  refine fin_wk (wk_frzO 2000004 3000002 (by decide) (by decide) rfl (by decide) rfl ?_) ?_
  rotate_left
  (conv in hold _=>simp (disch:=omega) only [go_sem,t2,Nat.le_refl])
  all_goals first
   | exact es_pur _
   | exact ints_pur _
   | skip
  refine fin_L [1000000,1000001] ?_ ?_ rfl ?_
  repeat' (first|(conv in hold _=>simp (disch:=omega) only [go_sem])|exact trivial|exact Sub.refl _|omega)
end Go.Proofs.YtefldihjbaodnaaGreat
