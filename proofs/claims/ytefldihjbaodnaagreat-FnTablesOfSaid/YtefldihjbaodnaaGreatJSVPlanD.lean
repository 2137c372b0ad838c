/-
  EvalPlan of the model. No condition.
-/
import Derived.Test.YtefldihjbaodnaaGreatJSDcVWid
import Derived.Test.YtefldihjbaodnaaGreatKSDca
import Derived.Test.YtefldihjbaodnaaGreatKSDcg
import Derived.Test.YtefldihjbaodnaaGreatJSVPlanC
import Derived.Test.YtefldihjbaodnaaGreatJSVPiC
import Derived.Test.YtefldihjbaodnaaGreatJSVGo
import Derived.Test.YtefldihjbaodnaaGreatKSDch
set_option maxHeartbeats 4000000
set_option maxRecDepth 100000
set_option linter.unusedVariables false
set_option linter.unusedSimpArgs false
namespace Go.Proofs.YtefldihjbaodnaaGreat
open Go.RowKit
def dbOk (db : List Ta) : Prop:=∀ t,t ∈ db → tOk t
def dbWs (db : List Ta) : List Nat:=db.map (fun t=>t.w.toNat)
theorem widthsOf_t {db : List Ta} (hl : db.length ≤ 1000) (h : dbOk db) : Does Tryz.prog 34 [] [tasD db] (intsD (natI (dbWs db))) []:=by
 have hnl : (natI (dbWs db)).length = db.length:=by unfold natI dbWs; rw [List.length_map,List.length_map]
 have htk : ((natI (dbWs db)).map I).take db.length = (natI (dbWs db)).map I:=by rw [← hnl]; exact take_all I _
 refine Bg c_Z155 mixed (go1 trivial ?_)
 refine dw_for (c:=1) (l:=fun i=>[(0,tasD db),(3,.own 1000000 1 i),(4,I i),(1000000,.row 1 (((natI (dbWs db)).take i).map I))]) db.length (fun _=>True) 0 trivial ((wk_row 3 2000090 1 (by decide) (by decide) rfl rfl).trans (Wk.list [2000090] rfl rfl ?_)) (fun i hi _=>?_) (Nat.zero_le _)
 ·repeat' (first|(conv in hold _=>simp (disch:=omega) only [go_sem])|exact trivial|exact Sub.refl _|omega)
  first | exact rfl | exact ⟨rfl,rfl⟩
 ·have htm : (((natI (dbWs db)).take i).map I).take i = ((natI (dbWs db)).take i).map I:=take_map I (by rw [hnl]; exact hi)
  have htl : ((natI (dbWs db)).take i).length = i:=take_len (by rw [hnl]; exact hi)
  rcases at_or_end hi with ⟨t,ht,hlt⟩ | rfl
  ·have hok:=h t (List.mem_of_getElem? ht)
   have hv:=validTable_ok t (tOk_sz hok)
   rw [decide_eq_true hok] at hv
   obtain ⟨w,hw,hw6,_⟩:=tOk_nat hok
   have hnx : (natI (dbWs db)).take (i + 1) = (natI (dbWs db)).take i ++ [t.w]:=take_next (by
    unfold natI dbWs
    rw [List.getElem?_map,List.getElem?_map,ht]
    show some ((t.w.toNat : Nat) : Int) = some t.w
    rw [hw]
    rfl)
   refine go1 @ht ?_
   refine Uc (cj2 @ht @htm) (hv) (go1 (cj2 @ht @htm) ?_)
   refine ⟨hlt,trivial,Wk.list [2000026] rfl rfl ?_⟩
   repeat' (first|(conv in hold _=>simp (disch:=omega) only [go_sem,hnx,htm])|exact trivial|exact Sub.refl _|omega)
   rw [List.map_append]
   rfl
  ·have e1 : (natI (dbWs db)).take db.length = natI (dbWs db):=List.take_of_length_le (by rw [hnl]; exact Nat.le_refl _)
   rw [e1]
   refine go1F trivial ?_
   refine fin_wk (wk_frz 2 1000000 (by decide) (by decide) rfl ?_) ?_
   rotate_left
   (conv in hold _=>simp (disch:=omega) only [go_sem,htk,hnl,List.length_map,Nat.le_refl])
   ·refine fin_L [] ?_ ?_ rfl ?_
    repeat' (first|(conv in hold _=>simp (disch:=omega) only [go_sem])|exact trivial|exact Sub.refl _|omega)
   ·exact ints_pur _
theorem widthsOf_f {db : List Ta} (hl : db.length ≤ 1000) (hsz : ∀ t,t ∈ db → rsz t.rows ≤ 1048576) (h : ¬ dbOk db) : Does Tryz.prog 34 [] [tasD db] (intsD (natI [])) []:=by
 refine Bg c_Z155 mixed (go1 trivial ?_)
 refine dw_for (c:=1) (l:=fun i=>[(0,tasD db),(3,.own 1000000 1 i),(4,I i),(1000000,.row 1 (((natI (dbWs db)).take i).map I))]) db.length (fun i=>∀ (j : Nat) (t : Ta),j < i → db[j]? = some t → tOk t) 0 (fun j t hj=>by omega) ((wk_row 3 2000090 1 (by decide) (by decide) rfl rfl).trans (Wk.list [2000090] rfl rfl ?_)) (fun i hi hJ=>?_) (Nat.zero_le _)
 ·repeat' (first|(conv in hold _=>simp (disch:=omega) only [go_sem])|exact trivial|exact Sub.refl _|omega)
  first | exact rfl | exact ⟨rfl,rfl⟩
 ·have hnl : (natI (dbWs db)).length = db.length:=by unfold natI dbWs; rw [List.length_map,List.length_map]
  have htm : (((natI (dbWs db)).take i).map I).take i = ((natI (dbWs db)).take i).map I:=take_map I (by rw [hnl]; exact hi)
  have htl : ((natI (dbWs db)).take i).length = i:=take_len (by rw [hnl]; exact hi)
  rcases at_or_end hi with ⟨t,ht,hlt⟩ | rfl
  ·have hv:=validTable_ok t (hsz t (List.mem_of_getElem? ht))
   by_cases hok : tOk t
   ·rw [decide_eq_true hok] at hv
    obtain ⟨w,hw,hw6,_⟩:=tOk_nat hok
    have hnx : (natI (dbWs db)).take (i + 1) = (natI (dbWs db)).take i ++ [t.w]:=take_next (by
     unfold natI dbWs
     rw [List.getElem?_map,List.getElem?_map,ht]
     show some ((t.w.toNat : Nat) : Int) = some t.w
     rw [hw]
     rfl)
    refine go1 @ht ?_
    refine Uc (cj2 @ht @htm) (hv) (go1 (cj2 @ht @htm) ?_)
    refine ⟨hlt,fun j u hj hu=>?_,Wk.list [2000026] rfl rfl ?_⟩
    ·by_cases hji : j = i
     ·subst hji
      rw [ht] at hu
      cases hu
      exact hok
     ·exact hJ j u (by omega) hu
    ·repeat' (first|(conv in hold _=>simp (disch:=omega) only [go_sem,hnx,htm])|exact trivial|exact Sub.refl _|omega)
     rw [List.map_append]
     rfl
   ·rw [decide_eq_false hok] at hv
    refine go1 @ht ?_
    refine Uc trivial (hv) (go1 trivial ?_)
    exact Sub.nul 1
  ·refine absurd (fun t ht=>?_) h
   obtain ⟨j,hj⟩:=List.mem_iff_getElem?.1 ht
   exact hJ j t (List.getElem?_eq_some_iff.1 hj).1 hj
theorem dbW_of {db : List Ta} (h : dbOk db) (hw : wsOk (natI (dbWs db))) : DbW (dbWs db) db:=by
 refine ⟨by unfold dbWs; rw [List.length_map],fun j t w hj hjw=>?_,?_,fun w hm=>?_⟩
 ·obtain ⟨n,hn,hn6,hr,ha,hl⟩:=tOk_nat (h t (List.mem_of_getElem? hj))
  have : w = n:=by
   unfold dbWs at hjw
   rw [List.getElem?_map,hj] at hjw
   have h1 : t.w.toNat = w:=Option.some.inj hjw
   omega
  subst this
  exact ⟨hn,hr,by omega,ha⟩
 ·have:=hw.1.2
  unfold natI at this
  rw [List.length_map] at this
  exact this
 ·obtain ⟨j,hj⟩:=List.mem_iff_getElem?.1 hm
  have:=hw.2 j w (natI_of hj)
  omega
def fitP (p : Pl) (db : List Ta) (n : Nat) : Prop:=dbOk db ∧ wsOk (natI (dbWs db)) ∧ n ≠ 0 ∧ Wt (dbWs db) p n
end Go.Proofs.YtefldihjbaodnaaGreat
set_option maxHeartbeats 4000000
set_option maxRecDepth 100000
set_option linter.unusedVariables false
set_option linter.unusedSimpArgs false
namespace Go.Proofs.YtefldihjbaodnaaGreat
open Go.RowKit
theorem randomWidths_own {bs : List Nat} (hs : Src bs) (p : Nat) (hp : p < 100000000) : ∃ (ws : List Int) (q : Nat),(Does Tryz.prog 57 [rdD bs p] [.ref 1000000 0] (.own 1000001 1 ws.length) [rdD bs q,wrD ws] ∧ (2 ≤ ws.length ∧ ws.length ≤ 3) ∧ ∀ (i : Nat) (w : Int),ws[i]? = some w → 1 ≤ w ∧ w ≤ 2) ∧ p ≤ q ∧ q ≤ p + 10:=by
 obtain ⟨k,hk,k0,k1,_⟩:=pick_ok hs p (by omega) 2 (by omega)
 have hk1:=k1 (by omega)
 obtain ⟨m,rfl⟩:=Int.eq_ofNat_of_zero_le k0
 obtain ⟨ws,ps,hl,h0,hd,hp0,hp1⟩:=draws (fun p (w : Int) q=>q = p + 1 ∧ DPick bs p 2 (w - 1) ∧ 1 ≤ w ∧ w ≤ 2) 900000000 1 (fun p hp=>by
  obtain ⟨v,hv,v0,v1,_⟩:=pick_ok hs p (by omega) 2 (by omega)
  have hv1:=v1 (by omega)
  refine ⟨v + 1,p + 1,⟨rfl,by rw [show v + 1 - 1 = v by omega]; exact hv,by omega,by omega⟩,by omega,by omega⟩) (2 + m) (p + 1) (by omega)
 refine ⟨ws,ps (2 + m),⟨?_,by omega,fun i w hi=>(hd i w hi).2.2⟩,by omega,by omega⟩
 refine Bk c_Z70 mixed 1 (go1 trivial ?_)
 refine UcR [1000000] trivial (hk) (go1 trivial ?_)
 refine dw_for (c:=2) (l:=fun i=>[(0,.ref 1000000 0),(3,.own 1000001 1 i),(4,I (2 + (m : Int) - i)),(1000000,rdD bs (ps i)),(1000001,.row 1 ((ws.take i).map I))]) (2 + m) (fun _=>True) 0 trivial ((wk_row 3 2000018 1 (by decide) (by decide) rfl rfl).trans (Wk.list [1000000,2000018] rfl rfl ?_)) (fun i hi _=>?_) (Nat.zero_le _)
 ·rw [h0]
  repeat' (first|(conv in hold _=>simp (disch:=omega) only [go_sem])|exact trivial|exact Sub.refl _|omega)
  exact congrArg (fun n=>D.v (Value.int .i64 n)) (by omega)
 ·have hlt:=take_len (vs:=ws) (i:=i) (by omega)
  have hmt:=take_map I (vs:=ws) (i:=i) (by omega)
  by_cases hil : i < 2 + m
  ·obtain ⟨w,hw⟩ : ∃ w,ws[i]? = some w:=⟨ws[i],List.getElem?_eq_getElem (by omega)⟩
   obtain ⟨x1,x2,x3,x4⟩:=hd i w hw
   have hnx:=take_next hw
   have hw1 : 1 + (w - 1) = w:=by omega
   refine go1 trivial ?_
   refine UcR [1000000] @hw1 (x2) (go1 @hw1 ?_)
   refine ⟨by omega,trivial,Wk.list [1000000,2000018] rfl rfl ?_⟩
   repeat' (first|(conv in hold _=>simp (disch:=omega) only [go_sem,hw1,x1])|exact trivial|exact Sub.refl _|omega)
   refine ⟨congrArg (fun n=>D.v (Value.int .i64 n)) (by omega),?_⟩
   rw [hmt,hnx,List.map_append]
   rfl
  ·obtain rfl : i = 2 + m:=by omega
   have e1 : ws.take (2 + m) = ws:=List.take_of_length_le (by omega)
   have e2 : (ws.map I).take (2 + m) = ws.map I:=List.take_of_length_le (by rw [List.length_map]; omega)
   have hl2 : ws.length = 2 + m:=hl
   rw [hl2]
   refine go1 @e1 ?_
   refine fin_L [1000000,1000001] ?_ ?_ rfl ?_
   repeat' (first|(conv in hold _=>simp (disch:=omega) only [go_sem,e1,e2])|exact trivial|exact Sub.refl _|omega)
   all_goals (try rw [e2])
theorem randomPlan_own {bs : List Nat} (hs : Src bs) {ws : List Int} (hw : wsOk ws) (p : Nat) (hp : p < 100000000) : ∃ (x : Pl) (q : Nat),Does Tryz.prog 98 [rdD bs p,wrD ws] [.ref 1000000 0,.own 1000001 1 ws.length] (rootD 1000002 1000003 x) [rdD bs q,wrD ws,esR x,csR x] ∧ p ≤ q ∧ q ≤ p + 21000 ∧ psz x ≤ 11000 ∧ rb x ≤ 60 ∧ (x.k = 6 → x.es = []):=by
 obtain ⟨k,hk,k0,k1,_⟩:=pick_ok hs p (by omega) 4 (by omega)
 have hk1:=k1 (by omega)
 obtain ⟨m,rfl⟩:=Int.eq_ofNat_of_zero_le k0
 obtain ⟨x,q,j',u',⟨hD,hO⟩,hq0,hq1,hz,_,_,hrb,h66⟩:=plan_any hs hw (m + 1) (p + 1) (by omega) (by omega)
 have hm1 : ((m + 1 : Nat) : Int) = 1 + (m : Int):=by omega
 unfold DPlan at hD
 unfold OPlan at hO
 rw [hm1] at hD hO
 have hg : gnD ws 1 1 = .obj [.ref 1000001 0,.own 1000002 1 ws.length,I 1,I 1]:=rfl
 rw [hg] at hD hO
 obtain ⟨kk,hkk,_⟩:=pick_ok hs q (by omega) 2 (by omega)
 by_cases hkk0 : kk = 0
 ·subst hkk0
  obtain ⟨n,hn,hwx⟩:=wid_of hw x (by omega)
  obtain ⟨e,q2,hce,he0,he1,hez⟩:=randomCondition_ok hs n (by omega) (q + 1) (by omega)
  have hf:=filterOf_own e x
  have hfz : psz (.mk 2 0 [e] [] [x]) = esz e + 0 + (1 + psz x):=by rw [psz_one,eszL_1]; rfl
  refine ⟨.mk 2 0 [e] [] [x],q2,?_,by omega,by omega,by omega,by rw [rb_1 (q:=x) rfl]; exact Nat.le_trans hrb (cap_60 _ _),fun h=>absurd h (by decide : ¬ (2 : Int) = 6)⟩
  refine Bk c_Z105 mixed 2 (go1 trivial ?_)
  refine UcR [1000000] trivial (hk) (go1 trivial ?_)
  refine UcR [2000010,1000000,1000001] trivial (hD) (go1 trivial ?_)
  refine UcR [1000000] trivial (hkk) (go1 trivial ?_)
  refine UcR [1000001] trivial (hwx) (go1 trivial ?_)
  refine UcR [1000000] trivial (hce) (go1 trivial ?_)
  refine UcR [3000001,3000002] trivial (hf) (go1 trivial ?_)
  refine fin_L [1000000,1000001,3000001,3000002] ?_ ?_ rfl ?_
  repeat' (first|(conv in hold _=>simp (disch:=omega) only [go_sem])|exact trivial|exact Sub.refl _|omega)
 ·refine ⟨x,q + 1,?_,by omega,by omega,by omega,Nat.le_trans hrb (cap_60 _ _),h66⟩
  refine Bk c_Z105 mixed 2 (go1 trivial ?_)
  refine UcR [1000000] trivial (hk) (go1 trivial ?_)
  refine UcR [2000010,1000000,1000001,3000001,3000002] trivial (hO) (go1 trivial ?_)
  refine UcR [1000000] trivial (hkk) (go1 trivial ?_)
  refine fin_L [1000000,1000001,3000001,3000002] ?_ ?_ rfl ?_
  repeat' (first|(conv in hold _=>simp (disch:=omega) only [go_sem])|exact trivial|exact Sub.refl _|omega)
end Go.Proofs.YtefldihjbaodnaaGreat
