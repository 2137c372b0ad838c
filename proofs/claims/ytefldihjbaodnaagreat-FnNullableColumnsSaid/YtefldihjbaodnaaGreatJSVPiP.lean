/-
  widthsOf of the laws. No condition.
-/
import Derived.Test.YtefldihjbaodnaaGreatKSDca
import Derived.Test.YtefldihjbaodnaaGreatJSVLaw
import Derived.Test.YtefldihjbaodnaaGreatJSVPlanE
import Derived.Test.YtefldihjbaodnaaGreatJSDcWNlP
import Derived.Test.YtefldihjbaodnaaGreatJSVGo
import Derived.Test.YtefldihjbaodnaaGreatKSDcf
import Derived.Test.YtefldihjbaodnaaGreatKSVPiM
import Derived.Test.YtefldihjbaodnaaGreatJSVPeG
import Derived.Test.YtefldihjbaodnaaGreatKSDch
import Derived.Test.YtefldihjbaodnaaGreatJSVPiB
import Derived.Test.YtefldihjbaodnaaGreatJSVDst
set_option maxHeartbeats 4000000
set_option maxRecDepth 100000
set_option linter.unusedVariables false
set_option linter.unusedSimpArgs false
namespace Go.Proofs.YtefldihjbaodnaaGreat
open Go.RowKit
theorem widthsOf_m {db : List Ta} (hl : db.length ≤ 1000) (h : dbOk db) : Does Tryz.prog 11 [] [tasD db] (intsD (natI (dbWs db))) []:=by
 have hnl : (natI (dbWs db)).length = db.length:=by unfold natI dbWs; rw [List.length_map,List.length_map]
 have htk : ((natI (dbWs db)).map I).take db.length = (natI (dbWs db)).map I:=by rw [← hnl]; exact take_all I _
 refine Bg c_Z162 mixed (go1 trivial ?_)
 refine dw_for (c:=1) (l:=fun i=>[(0,tasD db),(3,.own 1000000 1 i),(4,I i),(1000000,.row 1 (((natI (dbWs db)).take i).map I))]) db.length (fun _=>True) 0 trivial ((wk_row 3 2000090 1 (by decide) (by decide) rfl rfl).trans (Wk.list [2000090] rfl rfl ?_)) (fun i hi _=>?_) (Nat.zero_le _)
 ·repeat' (first|(conv in hold _=>simp (disch:=omega) only [go_sem])|exact trivial|exact Sub.refl _|omega)
  first | exact rfl | exact ⟨rfl,rfl⟩
 ·have htm : (((natI (dbWs db)).take i).map I).take i = ((natI (dbWs db)).take i).map I:=take_map I (by rw [hnl]; exact hi)
  have htl : ((natI (dbWs db)).take i).length = i:=take_len (by rw [hnl]; exact hi)
  rcases at_or_end hi with ⟨t,ht,hlt⟩ | rfl
  ·have hok:=h t (List.mem_of_getElem? ht)
   obtain ⟨w,hw,hw6,_⟩:=tOk_nat hok
   have hnx : (natI (dbWs db)).take (i + 1) = (natI (dbWs db)).take i ++ [t.w]:=take_next (by
    unfold natI dbWs
    rw [List.getElem?_map,List.getElem?_map,ht]
    show some ((t.w.toNat : Nat) : Int) = some t.w
    rw [hw]
    rfl)
   refine go1 (cj2 @ht @htm) ?_
   refine ⟨hlt,trivial,Wk.list [2000019] rfl rfl ?_⟩
   repeat' (first|(conv in hold _=>simp (disch:=omega) only [go_sem,hnx,htm])|exact trivial|exact Sub.refl _|omega)
   rw [List.map_append]
   rfl
  ·have e1 : (natI (dbWs db)).take db.length = natI (dbWs db):=List.take_of_length_le (by rw [hnl]; exact Nat.le_refl _)
   rw [e1]
   refine go1F trivial ?_
   refine fin_wk (wk_frz 2 1000000 (by decide) (by decide) rfl ?_) ?_
   rotate_left
   (conv in hold _=>simp (disch:=omega) only [go_sem,htk,hnl,List.length_map,Nat.le_refl])
   ·refine fin_L [] ?_ ?_ rfl ?_
    repeat' (first|(conv in hold _=>simp (disch:=omega) only [go_sem])|exact trivial|exact Sub.refl _|omega)
   ·exact ints_pur _
end Go.Proofs.YtefldihjbaodnaaGreat
set_option maxHeartbeats 4000000
set_option maxRecDepth 100000
set_option linter.unusedVariables false
set_option linter.unusedSimpArgs false
namespace Go.Proofs.YtefldihjbaodnaaGreat
open Go.RowKit
theorem resultOf_scan {p : Pl} {db kids : List Ta} {j : Nat} {t : Ta} (hk : p.k = 1) (ht : p.t = (j : Int)) (hj : db[j]? = some t) : Does Tryz.prog 30 [] [pD p,tasD kids,tasD db] (taD t) []:=by
 have hlt:=(List.getElem?_eq_some_iff.1 hj).1
 exact Bg c_Z158 mixed (go0 (cj3 @hk @ht @hj))
theorem resultOf_op {p : Pl} {db kids : List Ta} {L : List (List V)} (hk : p.k ≠ 1) (hO : OpI p kids L) (hl : L.length ≤ 1000000) (hn : kids.length ≤ 1000) (h0 : 0 < kids.length) (hw : ∀ t,t ∈ kids → 0 ≤ t.w ∧ t.w ≤ 6) (hc : p.cs.length ≤ 1048576) :
  Does Tryz.prog 30 [] [pD p,tasD kids,tasD db] (taD ⟨fromV p (kids.map Ta.w),colL L⟩) []:=by
 obtain ⟨f,caps,hf,hcp,h1,hY⟩:=hO
 have hren:=fun K=>ren_pure.renL_pure K caps hcp
 have h2:=collectRows_ok hf hcp L hl hY
 have hnl : (kids.map Ta.w).length = kids.length:=List.length_map _
 have h3:=widthFrom_ok p (kids.map Ta.w) (by omega) hc (fun j x hj=>by
  rw [List.getElem?_map] at hj
  cases hk : kids[j]? with
  | none=>rw [hk] at hj; cases hj
  | some t=>
   rw [hk] at hj
   obtain rfl : t.w = x:=by simpa using hj
   exact hw t (List.mem_of_getElem? hk)) (by omega)
 have htk : ((kids.map Ta.w).map I).take kids.length = (kids.map Ta.w).map I:=by rw [← hnl]; exact take_all I _
 refine Bg c_Z158 mixed (go1 (cj2 @hcp @hren) ?_)
 refine dw_for (c:=3) (l:=fun i=>[(1,tasD kids),(3,.ref 1000000 0),(6,.ref 1000001 0),(7,.own 1000002 1 i),(18,tasD kids),(19,I kids.length),(20,I i),(1000000,.obj [I p.k,I p.t,.sl 5 (p.es.map eD),intsD p.cs,.sl 5 (p.ks.map pD)]),(1000001,.obj [I 0,.nul]),(1000002,.row 1 (((kids.map Ta.w).take i).map I))]) kids.length (fun _=>True) 0 trivial ((wk_row 7 2000090 1 (by decide) (by decide) rfl rfl).trans (Wk.list [2000003,2000006,2000090] rfl rfl ?_)) (fun i hi _=>?_) (Nat.zero_le _)
 ·repeat' (first|(conv in hold _=>simp (disch:=omega) only [go_sem])|exact trivial|exact Sub.refl _|omega)
  first | exact rfl | exact ⟨rfl,rfl⟩ | exact ⟨rfl,rfl,rfl⟩
 ·have htl : ((kids.map Ta.w).take i).length = i:=take_len (by omega)
  have hmk : (((kids.map Ta.w).take i).map I).take i = ((kids.map Ta.w).take i).map I:=take_map I (by omega)
  rcases at_or_end hi with ⟨x,hx,hlt⟩ | rfl
  ·have hnx : (kids.map Ta.w).take (i + 1) = (kids.map Ta.w).take i ++ [x.w]:=take_next (by rw [List.getElem?_map,hx]; rfl)
   refine go1 @hx ?_
   refine ⟨hlt,trivial,Wk.list [1000000,1000001,2000028] rfl rfl ?_⟩
   repeat' (first|(conv in hold _=>simp (disch:=omega) only [go_sem,List.length_map,htl])|exact trivial|exact Sub.refl _|omega)
   rw [hmk,hnx,List.map_append]
   rfl
  ·have e1 : (kids.map Ta.w).take kids.length = kids.map Ta.w:=List.take_of_length_le (by omega)
   rw [e1]
   refine go1C trivial ?_
   refine s_pre (pre_frz (t:=31) (g:=1000002) (by decide) (by decide) rfl ?_) ?_
   rotate_left
   refine go1 (cj2 @htk @hnl) ?_
   ·refine Uc (cj2 @hcp @hren) (h3) (go1 (cj2 @hcp @hren) ?_)
    refine Uc (cj2 @hcp @hren) (h1) (go1 (cj2 @hcp @hren) ?_)
    exact Uc (cj2 @hcp @hren) (h2) (go0 (cj2 @hcp @hren))
   ·exact ints_pur _
theorem evalPlan1_ok {p : Pl} {db kids : List Ta} {t : Ta} (h : Does Tryz.prog 30 [] [pD p,tasD kids,tasD db] (taD t) []) : Does Tryz.prog 29 [] [pD p,tasD kids,.ptr [tasD db]] (taD t) []:=by
 refine Bg c_Z115 mixed (go1 trivial ?_)
 exact Uc trivial (h) (go0 trivial)
theorem foldT_step {p : Pl} {db q : List Ta} {t : Ta} (hl : q.length = p.ks.length) (hk4 : p.ks.length ≤ 1000)
  (hk : ∀ (i : Nat) (x : Pl) (c : Ta),p.ks[i]? = some x → q[i]? = some c → Does Tryz.prog 28 [] [pD x,.fn 29 [.ptr [tasD db]]] (taD c) [])
  (r : Does Tryz.prog 30 [] [pD p,tasD q,tasD db] (taD t) []) : Does Tryz.prog 28 [] [pD p,.fn 29 [.ptr [tasD db]]] (taD t) []:=by
 have h1:=evalPlan1_ok r
 refine Bg c_Z17 mixed (go1 trivial ?_)
 refine dw_for (c:=3) (l:=fun i=>[(1,.fn 29 [.ptr [tasD db]]),(2,.ref 1000000 0),(4,.ref 1000001 0),(5,.own 1000002 2 i),(9,.sl 5 (p.ks.map pD)),(10,I p.ks.length),(11,I i),(1000000,.obj [I p.k,I p.t,.sl 5 (p.es.map eD),intsD p.cs,.sl 5 (p.ks.map pD)]),(1000001,.obj [I 0,.nul]),(1000002,.row 2 ((q.take i).map taD))]) p.ks.length (fun _=>True) 0 trivial ((wk_row 5 2000090 2 (by decide) (by decide) rfl rfl).trans (Wk.list [2000002,2000004,2000090] rfl rfl ?_)) (fun i hi _=>?_) (Nat.zero_le _)
 ·repeat' (first|(conv in hold _=>simp (disch:=omega) only [go_sem])|exact trivial|exact Sub.refl _|omega)
  first | exact rfl | exact ⟨rfl,rfl⟩ | exact ⟨rfl,rfl,rfl⟩
 ·have htl : (q.take i).length = i:=by rw [List.length_take]; omega
  have hmk:=take_map taD (vs:=q) (i:=i) (by omega)
  rcases at_or_end hi with ⟨x,hx,hlt⟩ | rfl
  ·obtain ⟨c,hqx⟩ : ∃ c,q[i]? = some c:=⟨_,List.getElem?_eq_getElem (by omega)⟩
   have hix:=hk i x c hx hqx
   have hnx:=take_next hqx
   refine go1 @hx ?_
   refine Uc @htl (hix) (go1 @htl ?_)
   refine ⟨hlt,trivial,Wk.list [1000000,1000001,2000020] rfl rfl ?_⟩
   repeat' (first|(conv in hold _=>simp (disch:=omega) only [go_sem,List.length_map,htl])|exact trivial|exact Sub.refl _|omega)
   rw [hmk,hnx,List.map_append]
   rfl
  ·have e1 : q.take p.ks.length = q:=List.take_of_length_le (by omega)
   have e2 : (q.map taD).take p.ks.length = q.map taD:=List.take_of_length_le (by rw [List.length_map]; omega)
   rw [e1]
   refine go1C trivial ?_
   refine s_pre (pre_frz (t:=24) (g:=1000002) (by decide) (by decide) rfl ?_) ?_
   rotate_left
   refine go1 (cj2 @e2 @hl) ?_
   ·refine v_fn ((by kernel_rfl)) ?_
    exact Uc trivial (h1) (go0 trivial)
   ·exact tas_pur _
end Go.Proofs.YtefldihjbaodnaaGreat
set_option maxHeartbeats 4000000
set_option maxRecDepth 100000
set_option linter.unusedVariables false
set_option linter.unusedSimpArgs false
namespace Go.Proofs.YtefldihjbaodnaaGreat
open Go.RowKit
theorem drawsL {α β : Type} (S : α → Nat → β → Nat → Prop) (top K : Nat) : ∀ (l : List α) (step : ∀ a,a ∈ l → ∀ p,p < top → ∃ v q,S a p v q ∧ p ≤ q ∧ q ≤ p + K) (p : Nat),p + l.length * K < top →
  ∃ (vs : List β) (ps : Nat → Nat),vs.length = l.length ∧ ps 0 = p ∧ (∀ (i : Nat) (a : α) (v : β),l[i]? = some a → vs[i]? = some v → S a (ps i) v (ps (i + 1))) ∧ p ≤ ps l.length ∧ ps l.length ≤ p + l.length * K
 | [],_,p,_=>⟨[],fun _=>p,rfl,rfl,(fun i a v h=>by simp at h),Nat.le_refl p,Nat.le_add_right p _⟩
 | a :: l,step,p,hp=>by
  have hn : (l.length + 1) * K = l.length * K + K:=by rw [Nat.add_mul]; omega
  rw [List.length_cons] at hp
  obtain ⟨v,q,hs,h1,h2⟩:=step a (List.mem_cons_self ..) p (by omega)
  obtain ⟨vs,ps,hl,h0,hss,h3,h4⟩:=drawsL S top K l (fun a ha=>step a (List.mem_cons_of_mem _ ha)) q (by omega)
  refine ⟨v :: vs,fun i=>match i with
   | 0=>p
   | i + 1=>ps i,by simp [hl],rfl,fun i x y hx hy=>?_,by show p ≤ ps l.length; omega,by show ps l.length ≤ p + (l.length + 1) * K; omega⟩
  cases i with
  | zero=>
   obtain rfl : a = x:=by simpa using hx
   obtain rfl : v = y:=by simpa using hy
   show S a p v (ps 0)
   rw [h0]
   exact hs
  | succ i=>exact hss i x y (by simpa using hx) (by simpa using hy)
theorem randomTable_fz {bs : List Nat} (hs : Src bs) (w : Nat) (hw : w < 1000) (m : Nat) (hm : m ≤ 100) (p : Nat) (hp : p < 600000000) : ∃ (rs : List (List V)) (q : Nat),
  (Does Tryz.prog 101 [rdD bs p] [.ref 1000000 0,I w,I m] (taD ⟨w,srt rs⟩) [rdD bs q] ∧ RsW w rs ∧ rs.length ≤ m) ∧ p ≤ q ∧ q ≤ p + 201000:=by
 obtain ⟨k,hk,k0,k1,_⟩:=pick_ok hs p (by omega) ((m : Int) + 1) (by omega)
 have hk1:=k1 (by omega)
 obtain ⟨n,rfl⟩:=Int.eq_ofNat_of_zero_le k0
 have hnm : n ≤ m:=by omega
 have hnw : n * (w * 2) ≤ 100 * 2000:=Nat.mul_le_mul (by omega) (by omega)
 obtain ⟨rs,ps,hl,h0,hd,hp0,hp1⟩:=draws (fun p (v : List V) q=>Does Tryz.prog 150 [rdD bs p] [.ref 1000000 0,I w] (rowD v) [rdD bs q] ∧ v.length = w ∧ ∀ u,u ∈ v → u.ok) 800000000 (w * 2) (fun p hp=>randomRow_fz hs w hw p hp) n (p + 1) (by omega)
 have hr : RsW w rs:=fun r hr=>by
  obtain ⟨i,hi⟩:=List.mem_iff_getElem?.1 hr
  exact (hd i r hi).2
 have ht:=tableOf_fz w w hw rs (by omega) hr
 refine ⟨rs,ps n,⟨?_,hr,by omega⟩,by omega,by omega⟩
 refine Bk c_Z112 mixed 1 (go1 trivial ?_)
 refine UcR [1000000] trivial (hk) (go1 trivial ?_)
 refine dw_for (c:=3) (l:=fun i=>[(0,.ref 1000000 0),(1,I w),(2,I m),(6,.ref 1000001 0),(7,.own 1000002 1 i),(8,I ((n : Int) - i)),(1000000,rdD bs (ps i)),(1000001,.obj [I 0,.nul]),(1000002,.row 1 ((rs.take i).map rowD))]) n (fun _=>True) 0 trivial ((wk_row 7 2000090 1 (by decide) (by decide) rfl rfl).trans (Wk.list [1000000,2000006,2000090] rfl rfl ?_)) (fun i hi _=>?_) (Nat.zero_le _)
 ·rw [h0]
  repeat' (first|(conv in hold _=>simp (disch:=omega) only [go_sem])|exact trivial|exact Sub.refl _|omega)
  exact congrArg (fun n=>D.v (Value.int .i64 n)) (by omega)
 ·have htl:=take_len (vs:=rs) (i:=i) (by omega)
  have hmk:=take_map rowD (vs:=rs) (i:=i) (by omega)
  by_cases hlt : i < n
  ·obtain ⟨x,hx⟩ : ∃ x,rs[i]? = some x:=⟨_,List.getElem?_eq_getElem (by omega)⟩
   have hdi:=(hd i x hx).1
   have hnx:=take_next hx
   refine go1 trivial ?_
   refine UcR [1000000] trivial (hdi) (go1 trivial ?_)
   refine ⟨hlt,trivial,Wk.list [1000000,1000001,2000023] rfl rfl ?_⟩
   repeat' (first|(conv in hold _=>simp (disch:=omega) only [go_sem,List.length_map,htl])|exact trivial|exact Sub.refl _|omega)
   refine ⟨congrArg (fun n=>D.v (Value.int .i64 n)) (by omega),?_⟩
   rw [hmk,hnx,List.map_append]
   rfl
  ·obtain rfl : i = n:=by omega
   have e1 : rs.take i = rs:=List.take_of_length_le (by omega)
   have e2 : (rs.map rowD).take i = rs.map rowD:=by rw [← hl]; exact take_all rowD rs
   refine go1C @e1 ?_
   refine s_pre (pre_frz (t:=25) (g:=1000002) (by decide) (by decide) rfl ?_) ?_
   rotate_left
   refine go1 (cj3 @e1 @e2 @hl) ?_
   ·refine Uc trivial (ht) (go1 trivial ?_)
    refine fin_L [1000000] ?_ ?_ rfl ?_
    repeat' (first|(conv in hold _=>simp (disch:=omega) only [go_sem])|exact trivial|exact Sub.refl _|omega)
   ·exact rows_pur _
def smallDb (db : List Ta) : Prop:=∀ t,t ∈ db → t.rows.length ≤ 5 ∧ (∀ r,r ∈ t.rows → r.length ≤ 9) ∧ 0 ≤ t.w ∧ t.w ≤ 100
theorem smallDb.sz {db : List Ta} (h : smallDb db) : ∀ t,t ∈ db → rsz t.rows ≤ 1048576:=fun t ht=>by
 obtain ⟨h1,h2,_⟩:=h t ht
 have h3:=rsz_le t.rows h2
 have h4 : t.rows.length * (9 + 1) ≤ 5 * 10:=Nat.mul_le_mul h1 (Nat.le_refl _)
 omega
theorem randomDatabase_own {bs : List Nat} (hs : Src bs) {ws : List Int} (hw : ∀ (i : Nat) (w : Int),ws[i]? = some w → 1 ≤ w ∧ w ≤ 2) (hwl : ws.length ≤ 3) (p : Nat) (hp : p < 500000000) : ∃ (db : List Ta) (q : Nat),
  (Does Tryz.prog 59 [rdD bs p,wrD ws] [.ref 1000000 0,.own 1000001 1 ws.length] (.own 1000002 2 db.length) [rdD bs q,wrD ws,.row 2 (db.map taD)] ∧ db.length = ws.length ∧ smallDb db) ∧ p ≤ q ∧ q ≤ p + 700000:=by
 obtain ⟨db,ps,hl,h0,hd,hp0,hp1⟩:=drawsL (fun (w : Int) p (t : Ta) q=>Does Tryz.prog 101 [rdD bs p] [.ref 1000000 0,I w,I 4] (taD t) [rdD bs q] ∧ t.rows.length ≤ 5 ∧ (∀ r,r ∈ t.rows → r.length ≤ 9) ∧ 0 ≤ t.w ∧ t.w ≤ 100) 600000000 201000 ws (fun w hm p hp=>by
  obtain ⟨j,hj⟩:=List.mem_iff_getElem?.1 hm
  obtain ⟨w1,w2⟩:=hw j w hj
  obtain ⟨n,rfl⟩:=Int.eq_ofNat_of_zero_le (show 0 ≤ w by omega)
  obtain ⟨rs,q,⟨g1,g2,g3⟩,g4,g5⟩:=randomTable_fz hs n (by omega) 4 (by omega) p hp
  have hsl:=srt_len rs
  exact ⟨⟨n,srt rs⟩,q,⟨g1,by show (srt rs).length ≤ 5; omega,fun r hr=>by have:=(srt_rsw g2 r hr).1; omega,by show (0 : Int) ≤ n; omega,by show (n : Int) ≤ 100; omega⟩,g4,g5⟩) p (by
  have : ws.length * 201000 ≤ 3 * 201000:=Nat.mul_le_mul_right _ hwl
  omega)
 have hK : ws.length * 201000 ≤ 3 * 201000:=Nat.mul_le_mul_right _ hwl
 refine ⟨db,ps ws.length,⟨?_,hl,fun t ht=>?_⟩,hp0,by omega⟩
 ·rw [hl]
  refine Bk c_Z65 mixed 2 (go1 trivial ?_)
  refine dw_for (c:=3) (l:=fun i=>[(0,.ref 1000000 0),(1,.own 1000001 1 ws.length),(5,.own 1000002 2 i),(6,I i),(1000000,rdD bs (ps i)),(1000001,wrD ws),(1000002,.row 2 ((db.take i).map taD))]) ws.length (fun _=>True) 0 trivial ((wk_row 5 2000090 2 (by decide) (by decide) rfl rfl).trans (Wk.list [1000000,1000001,2000090] rfl rfl ?_)) (fun i hi _=>?_) (Nat.zero_le _)
  ·rw [h0]
   repeat' (first|(conv in hold _=>simp (disch:=omega) only [go_sem])|exact trivial|exact Sub.refl _|omega)
   first | exact rfl | exact ⟨rfl,rfl⟩
  ·have htl:=take_len (vs:=db) (i:=i) (by omega)
   have hmk:=take_map taD (vs:=db) (i:=i) (by omega)
   rcases at_or_end hi with ⟨w,hx,hlt⟩ | rfl
   ·obtain ⟨t,ht⟩ : ∃ t,db[i]? = some t:=⟨_,List.getElem?_eq_getElem (by omega)⟩
    obtain ⟨w1,w2⟩:=hw i w hx
    have hdi:=(hd i w t hx ht).1
    have hnx:=take_next ht
    have hmx : max w 1 = w:=by omega
    have hmn : min w 6 = w:=by omega
    refine go1 (cj4 @hx @hmx @hmn @mmV.eq_1) ?_
    refine UcR [1000000] (cj3 @hx @hmx @hmn) (hdi) (go1 (cj3 @hx @hmx @hmn) ?_)
    refine ⟨hlt,trivial,Wk.list [1000000,1000001,2000024] rfl rfl ?_⟩
    repeat' (first|(conv in hold _=>simp (disch:=omega) only [go_sem,List.length_map,htl])|exact trivial|exact Sub.refl _|omega)
    rw [hmk,hnx,List.map_append]
    rfl
   ·have e1 : db.take ws.length = db:=List.take_of_length_le (by omega)
    rw [e1]
    refine go1 trivial ?_
    refine fin_L [1000000,1000001,1000002] ?_ ?_ rfl ?_
    repeat' (first|(conv in hold _=>simp (disch:=omega) only [go_sem])|exact trivial|exact Sub.refl _|omega)
 ·obtain ⟨j,hj⟩:=List.mem_iff_getElem?.1 ht
  have hjl:=(List.getElem?_eq_some_iff.1 hj).1
  exact (hd j _ t (List.getElem?_eq_getElem (by omega)) hj).2
theorem planAndTables_ok {bs : List Nat} (hs : Src bs) (p : Nat) (hp : p < 80000000) : ∃ (x : Pl) (db : List Ta) (q : Nat),Does Tryz.prog 24 [rdD bs p] [.ref 1000000 0] (.tup [pD x,tasD db]) [rdD bs q] ∧ (2 ≤ db.length ∧ db.length ≤ 3) ∧ smallDb db ∧ psz x ≤ 11100 ∧ (fields x → rb x ≤ 60):=by
 obtain ⟨ws,q,⟨hw,hl,hr⟩,hq0,hq1⟩:=randomWidths_own hs p (by omega)
 have hwo : wsOk ws:=⟨by omega,fun i w h=>by have:=hr i w h; omega⟩
 obtain ⟨x,q2,hx,hx0,hx1,hz⟩:=anyPlan_ok hs hwo q (by omega)
 obtain ⟨db,q3,⟨hdb,hdl,hsm⟩,hd0,hd1⟩:=randomDatabase_own hs hr hl.2 q2 (by omega)
 obtain ⟨k,hk,k0,k1,_⟩:=pick_ok hs q3 (by omega) 16 (by omega)
 by_cases hk0 : k = 0
 ·obtain ⟨w0,hw0⟩ : ∃ w,ws[0]? = some w:=⟨_,List.getElem?_eq_getElem (by omega)⟩
  obtain ⟨w1,w2⟩:=hr 0 w0 hw0
  obtain ⟨n,rfl⟩:=Int.eq_ofNat_of_zero_le (show 0 ≤ w0 by omega)
  obtain ⟨t,q4,⟨ht,hn,ht0,ht1⟩,_⟩:=anyTable_w hs n (by omega) (by omega) 4 (by omega) (q3 + 1) (by omega)
  have hpos : (ws.map I)[0]? = some (I n):=by rw [List.getElem?_map,hw0]; rfl
  have hdp : (db.map taD)[0]? = some (taD (db[0]'(by omega))):=by
   rw [List.getElem?_map,List.getElem?_eq_getElem (by omega)]
   rfl
  have hsi : (db.map taD).set 0 (.agg [I t.w,.sl 1 (t.rows.map rowD)]) = (db.set 0 t).map taD:=by rw [List.map_set]; rfl
  have t3 : ((db.set 0 t).map taD).take ws.length = (db.set 0 t).map taD:=take_allL taD _ (by rw [List.length_set]; exact hdl.symm)
  have hle : ws.length ≤ db.length:=by omega
  refine ⟨x,db.set 0 t,q4,?_,by rw [List.length_set]; omega,fun u hu=>?_,hz⟩
  ·refine Bk c_Z75 mixed 1 (go1F trivial ?_)
   refine UcR [1000000,3000001] trivial (hw) (go1F trivial ?_)
   refine UcR [1000000,3000001] trivial (hx) (go1F trivial ?_)
   refine UcR [1000000,3000001,3000002] trivial (hdb) (go1F trivial ?_)
   refine UcR [1000000] @hpos (hk) (go1F @hpos ?_)
   refine UcR [1000000] (cj3 @hpos @hdl @hdp) (ht) (go1F (cj3 @hpos @hdl @hdp) ?_)
   refine fin_wk (wk_frz 3 3000002 (by decide) (by decide) rfl ?_) ?_
   rotate_left
   (conv in hold _=>simp (disch:=omega) only [go_sem,hsi,t3,hle,List.length_set,Nat.le_refl])
   ·refine fin_L [1000000] ?_ ?_ rfl ?_
    repeat' (first|(conv in hold _=>simp (disch:=omega) only [go_sem,hsi,t3,hle])|exact trivial|exact Sub.refl _|omega)
   ·show D.purL ((db.map taD).set 0 (.agg [I t.w,.sl 1 (t.rows.map rowD)])) = true
    rw [hsi]
    exact tas_pur _
  ·rcases List.mem_or_eq_of_mem_set hu with hu | rfl
   ·exact hsm u hu
   ·exact ⟨hn.len,fun r hr=>by have:=hn.row r hr; omega,ht0,ht1⟩
 ·have t3:=take_allL taD db rfl
  refine ⟨x,db,q3 + 1,?_,by omega,hsm,hz⟩
  refine Bk c_Z75 mixed 1 (go1F trivial ?_)
  refine UcR [1000000,3000001] trivial (hw) (go1F trivial ?_)
  refine UcR [1000000,3000001] trivial (hx) (go1F trivial ?_)
  refine UcR [1000000,3000001,3000002] trivial (hdb) (go1F trivial ?_)
  refine UcR [1000000] trivial (hk) (go1F trivial ?_)
  refine fin_wk (wk_frz 3 3000002 (by decide) (by decide) rfl ?_) ?_
  rotate_left
  (conv in hold _=>simp (disch:=omega) only [go_sem,t3,Nat.le_refl])
  ·refine fin_L [1000000] ?_ ?_ rfl ?_
   repeat' (first|(conv in hold _=>simp (disch:=omega) only [go_sem])|exact trivial|exact Sub.refl _|omega)
  ·exact tas_pur _
theorem DrawEvalPlan_ok (bs : List Nat) (hb : ∀ b,b ∈ bs → b < 256) : ∃ (x : Pl) (db : List Ta),Does Tryz.prog 6 [] [bytesD bs] (.tup [pD x,tasD db]) [] ∧ psz x ≤ 11100 ∧ (2 ≤ db.length ∧ db.length ≤ 3) ∧ smallDb db ∧ (fields x → rb x ≤ 60):=by
 have hs : Src (bs.take 2000):=⟨fun b h=>hb b (List.mem_of_mem_take h),by rw [List.length_take]; omega⟩
 have hr:=newReader_ok bs
 generalize bs.take 2000 = rs at hs hr
 obtain ⟨x,db,q,hx,hl,hsm,hz⟩:=planAndTables_ok hs 0 (by omega)
 refine ⟨x,db,?_,hz.1,hl,hsm,hz.2⟩
 refine Bg c_Z86 mixed (go1 trivial ?_)
 refine UcR [3000001] trivial (hr) (go1 trivial ?_)
 exact UcR [3000001] trivial (hx) (go0 trivial)
end Go.Proofs.YtefldihjbaodnaaGreat
