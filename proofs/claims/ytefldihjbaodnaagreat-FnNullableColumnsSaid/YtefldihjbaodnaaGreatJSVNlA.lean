/-
  Drawn plans. No condition.
-/
import Derived.Test.YtefldihjbaodnaaGreatJSVDst
import Derived.Test.YtefldihjbaodnaaGreatJSDcWNlP
import Derived.Test.YtefldihjbaodnaaGreatJSVTru
import Derived.Test.YtefldihjbaodnaaGreatKSDca
import Derived.Test.YtefldihjbaodnaaGreatJSVLaw
import Derived.Test.YtefldihjbaodnaaGreatJSVPiE
import Derived.Test.YtefldihjbaodnaaGreatJSVDf
import Derived.Test.YtefldihjbaodnaaGreatJSVGo
set_option maxHeartbeats 4000000
set_option maxRecDepth 100000
set_option linter.unusedVariables false
set_option linter.unusedSimpArgs false
namespace Go.Proofs.YtefldihjbaodnaaGreat
open Go.RowKit
def pzb (S : Nat) : Nat → Nat
 | 0=>0
 | d + 1=>2 * pzb S d + S + 100
def prb (K : Nat) : Nat → Nat
 | 0=>10
 | d + 1=>prb K d + K + 1000
theorem psz_one (k t : Int) (es : List E) (cs : List Int) (x : Pl) : psz (.mk k t es cs [x]) = eszL es + cs.length + (1 + psz x):=by
 rw [psz,pszL,pszL]; omega
theorem psz_two (k t : Int) (es : List E) (cs : List Int) (x y : Pl) : psz (.mk k t es cs [x,y]) = eszL es + cs.length + (1 + psz x + (1 + psz y)):=by
 rw [psz,pszL,pszL,pszL]; omega
theorem eszL_1 (e : E) : eszL [e] = esz e:=by rw [eszL,eszL]; omega
theorem psz_scan (t : Int) : psz (.mk 1 t [] [] []) = 0:=by rw [psz,eszL,pszL]; rfl
def PlanAt (bs : List Nat) (ws : List Int) (p j u d : Nat) (S K : Nat) : Prop:=∃ (x : Pl) (q j' u' : Nat),(DPlan bs ws p j u d x q j' u' ∧ OPlan bs ws p j u d x q j' u') ∧ p ≤ q ∧ q ≤ p + K ∧ psz x ≤ S ∧ j' ≤ j ∧ u' ≤ u ∧ rb x ≤ capB (j - j') (u - u') ∧ (x.k = 6 → x.es = [])
theorem pD_pur (x : Pl) : (pD x).pur = true:=by
 have:=plans_pur [x]
 rw [List.map_cons,D.purL,Bool.and_eq_true] at this
 exact this.1
theorem wid_of {ws : List Int} (hw : wsOk ws) (x : Pl) (hx : psz x ≤ 900000) : ∃ n : Int,(0 ≤ n ∧ n ≤ 6) ∧ DWid ws x n:=by
 obtain ⟨n,hn,h,_⟩:=width_ok hw x (by omega) 8 (by omega)
 exact ⟨n,hn,Does.lent (H:=[wrD ws]) (ds:=[pD x,.own 1000000 1 ws.length,I 8]) h rfl (Lent.cons (.same _ (pD_pur x)) (Lent.cons (Lent.row 0 rfl (List.length_map ..) _ rfl) (Lent.one (.same _ rfl)))) (flats_1 (flat_ints _)) flats_0 rfl⟩
theorem plan_ind {bs : List Nat} (hs : Src bs) {ws : List Int} (hw : wsOk ws) (S K j T : Nat) (hT : T ≤ 250000000) (hj : j ≤ 1) (hoth : j = 1 → ∀ (u d p : Nat),u ≤ 1 → d ≤ 1 → p < T → PlanAt bs ws p 0 u d S K) :
  ∀ (d u p : Nat),u ≤ 1 → d ≤ 100 → p + prb K d < T → pzb S d ≤ 400000 → PlanAt bs ws p j u d (pzb S d) (prb K d):=by
 have hl:=hw.1
 intro d
 induction d with
 | zero=>
  intro u p hu hd hp hz
  rw [prb] at hp
  obtain ⟨t,h1,_⟩:=pick_ok hs p (by omega) ws.length (by omega)
  exact ⟨_,_,_,_,⟨plan_zero (by omega) h1,oplan_zero (by omega) h1⟩,by omega,by rw [prb]; omega,by rw [psz_scan]; exact Nat.zero_le _,Nat.le_refl _,Nat.le_refl _,by rw [rb_0 rfl]; exact cap_5 _ _,fun h=>absurd h (by decide : ¬ (1 : Int) = 6)⟩
 | succ d ih=>
  intro u p hu hd hp hz
  rw [prb] at hp
  rw [pzb] at hz
  obtain ⟨t,h1,_⟩:=pick_ok hs p (by omega) ws.length (by omega)
  obtain ⟨k6,h2,_⟩:=pick_ok hs (p + 1) (by omega) 6 (by omega)
  by_cases h6 : k6 = 0
  ·subst h6
   exact ⟨_,_,_,_,⟨plan_scan (by omega) d h1 h2,oplan_scan (by omega) d h1 h2⟩,by omega,by rw [prb]; omega,by rw [psz_scan]; exact Nat.zero_le _,Nat.le_refl _,Nat.le_refl _,by rw [rb_0 rfl]; exact cap_5 _ _,fun h=>absurd h (by decide : ¬ (1 : Int) = 6)⟩
  obtain ⟨x,q,j1,u1,⟨hk,_⟩,hq0,hq1,hxs,hj1,hu1,hrb,_⟩:=ih u (p + 2) hu (by omega) (by omega) (by omega)
  obtain ⟨n,hn,hwx⟩:=wid_of hw x (by omega)
  obtain ⟨c,h3,c0,c1,_⟩:=pick_ok hs q (by omega) 10 (by omega)
  have hc9:=c1 (by omega)
  have hpre : Pre bs ws p j u d x t k6 c n q j1 u1:=⟨by omega,by omega,h1,h2,h6,hk,hwx,hn,h3,by omega,by omega⟩
  obtain ⟨e,q2,hce,he0,he1,hez⟩:=randomCondition_ok hs n (by omega) (q + 1) (by omega)
  have hfz : psz (.mk 2 0 [e] [] [x]) = esz e + 0 + (1 + psz x):=by rw [psz_one,eszL_1]; rfl
  rw [PlanAt,prb,pzb]
  by_cases hA : c = 0 ∨ c = 1 ∨ c = 2
  ·exact ⟨_,_,_,_,⟨plan_fil hpre hA hce,oplan_fil hpre hA hce⟩,by omega,by omega,by omega,hj1,hu1,by rw [rb_1 rfl]; exact hrb,fun h=>absurd h (by decide : ¬ (2 : Int) = 6)⟩
  by_cases hB : c = 3 ∨ c = 4
  ·obtain ⟨mm,hmm,m0,m1,_⟩:=pick_ok hs (q + 1) (by omega) 2 (by omega)
   have hm1:=m1 (by omega)
   obtain ⟨m,rfl⟩:=Int.eq_ofNat_of_zero_le m0
   obtain ⟨es,ps,hel,h0,hes,hp0,hp1⟩:=draws (DOne bs n) 600000000 60 (fun p hp=>one_drawn hs n (by omega) p hp) (1 + m) (q + 2) (by omega)
   have hpj:=plan_proj hpre hB hmm (by omega) hel h0 hes
   have hpo:=oplan_proj hpre hB hmm (by omega) hel h0 hes
   have hez:=eszL_bound es (fun i e he=>(hes i e he).2)
   refine ⟨_,_,_,_,⟨hpj,hpo⟩,by omega,by omega,?_,hj1,hu1,by rw [rb_1 rfl]; exact hrb,fun h=>absurd h (by decide : ¬ (3 : Int) = 6)⟩
   rw [psz_one]
   show eszL es + 0 + (1 + psz x) ≤ _
   rw [hel] at hez
   omega
  by_cases hC : (c = 5 ∨ c = 6) ∧ 0 < j1 ∧ n ≤ 4
  ·obtain ⟨hc5,hj0,hn4⟩:=hC
   obtain ⟨dd,hdd,d0,d1,_⟩:=pick_ok hs (q + 1) (by omega) 2 (by omega)
   have hd1:=d1 (by omega)
   obtain ⟨m,rfl⟩:=Int.eq_ofNat_of_zero_le d0
   have hj11 : j1 - 1 = 0:=by omega
   obtain ⟨y,q3,j2,u2,⟨hy,_⟩,hy0,hy1,hyz,hj2,hu2,hrby,_⟩:=hoth (by omega) u1 m (q + 2) (by omega) (by omega) (by omega)
   rw [← hj11] at hy
   obtain ⟨n2,hn2,hwy⟩:=wid_of hw y (by omega)
   by_cases hwide : n + n2 ≤ 6
   ·obtain ⟨k,hkk,hkm⟩:=one_ok hs q3 (by omega) [4,5] (by decide) (by decide)
    obtain ⟨e',q4,hce',he0',he1',hez'⟩:=randomCondition_ok hs (n + n2) (by omega) (q3 + 1) (by omega)
    have hk6 : k ≠ 6:=by
     rcases List.mem_cons.1 hkm with rfl | hkm
     ·decide
     ·rw [List.mem_singleton.1 hkm]; decide
    have hb0 : j - j1 = 0:=by omega
    have hb1 : j1 - 1 - j2 = 0:=by omega
    have hjb : rb (.mk k 0 [e'] [] [x,y]) ≤ capB (j - j2) (u - u2):=by
     rw [rb_2 (q:=x) (r:=y) rfl,if_neg (show ¬ (Pl.mk k 0 [e'] [] [x,y]).k = 6 from hk6)]
     rw [hb0] at hrb
     rw [show 0 - j2 = 0 by omega] at hrby
     refine Nat.le_trans (cap_join hrb hrby (by omega)) (cap_mono (by omega) (by omega))
    have hjz : psz (.mk k 0 [e'] [] [x,y]) = esz e' + 0 + (1 + psz x + (1 + psz y)):=by rw [psz_two,eszL_1]; rfl
    exact ⟨_,_,_,_,⟨plan_join hpre hc5 hj0 hn4 hdd hy hwy hn2 hwide hkk hce',oplan_join hpre hc5 hj0 hn4 hdd hy hwy hn2 hwide hkk hce'⟩,by omega,by omega,by omega,by omega,by omega,hjb,fun h=>absurd h hk6⟩
   ·obtain ⟨e',q4,hce',he0',he1',hez'⟩:=randomCondition_ok hs n (by omega) q3 (by omega)
    have hfz' : psz (.mk 2 0 [e'] [] [x]) = esz e' + 0 + (1 + psz x):=by rw [psz_one,eszL_1]; rfl
    exact ⟨_,_,_,_,⟨plan_wide hpre hc5 hj0 hn4 hdd hy hwy hn2 hwide hce',oplan_wide hpre hc5 hj0 hn4 hdd hy hwy hn2 hwide hce'⟩,by omega,by omega,by omega,by omega,by omega,by rw [rb_1 rfl]; exact Nat.le_trans hrb (cap_mono (by omega) (by omega)),fun h=>absurd h (by decide : ¬ (2 : Int) = 6)⟩
  by_cases hD : c = 7 ∧ 0 < u1
  ·have hub : rb (.mk 6 0 [] [] [x,.mk 2 0 [e] [] [x]]) ≤ capB (j - j1) (u - (u1 - 1)):=by
    rw [rb_2 (q:=x) (r:=.mk 2 0 [e] [] [x]) rfl,if_pos (show (Pl.mk 6 0 [] [] [x,.mk 2 0 [e] [] [x]]).k = 6 from rfl),rb_1 (p:=.mk 2 0 [e] [] [x]) (q:=x) rfl,show u - (u1 - 1) = 1 by omega]
    rw [show u - u1 = 0 by omega] at hrb
    exact cap_uni hrb
   have huz : psz (.mk 6 0 [] [] [x,.mk 2 0 [e] [] [x]]) = 0 + 0 + (1 + psz x + (1 + psz (.mk 2 0 [e] [] [x]))):=by rw [psz_two]; rfl
   exact ⟨_,_,_,_,⟨plan_uni hpre hD.1 hD.2 (by omega) hce,oplan_uni hpre hD.1 hD.2 (by omega) hce⟩,by omega,by omega,by omega,hj1,by omega,hub,fun _=>rfl⟩
  by_cases hE : c = 8
  ·have hdz : psz (.mk 7 0 [] [] [x]) = 0 + 0 + (1 + psz x):=by rw [psz_one]; rfl
   exact ⟨_,_,_,_,⟨plan_dist hpre hE,oplan_dist hpre hE⟩,by omega,by omega,by omega,hj1,hu1,by rw [rb_1 rfl]; exact hrb,fun h=>absurd h (by decide : ¬ (7 : Int) = 6)⟩
  by_cases hF : c = 9
  ·by_cases hn1 : 1 < n
   ·obtain ⟨g,hg,_⟩:=pick_ok hs (q + 1) (by omega) n (by omega)
    have hgz : psz (.mk 8 0 [] [g] [x]) = 0 + 1 + (1 + psz x):=by rw [psz_one]; rfl
    exact ⟨_,_,_,_,⟨plan_grpc hpre hF hn1 hg,oplan_grpc hpre hF hn1 hg⟩,by omega,by omega,by omega,hj1,hu1,by rw [rb_1 rfl]; exact hrb,fun h=>absurd h (by decide : ¬ (8 : Int) = 6)⟩
   ·have hgz : psz (.mk 8 0 [] [] [x]) = 0 + 0 + (1 + psz x):=by rw [psz_one]; rfl
    exact ⟨_,_,_,_,⟨plan_grp hpre hF hn1,oplan_grp hpre hF hn1⟩,by omega,by omega,by omega,hj1,hu1,by rw [rb_1 rfl]; exact hrb,fun h=>absurd h (by decide : ¬ (8 : Int) = 6)⟩
  ·have hdf : ((c = 5 ∨ c = 6) ∧ ¬ (0 < j1 ∧ n ≤ 4)) ∨ (c = 7 ∧ u1 = 0):=by
    by_cases h5 : c = 5 ∨ c = 6
    ·exact Or.inl ⟨h5,fun h=>hC ⟨h5,h.1,h.2⟩⟩
    ·have h7 : c = 7:=by omega
     refine Or.inr ⟨h7,?_⟩
     by_cases h0 : 0 < u1
     ·exact (hD ⟨h7,h0⟩).elim
     ·omega
   exact ⟨_,_,_,_,⟨plan_def hpre hdf hce,oplan_def hpre hdf hce⟩,by omega,by omega,by omega,hj1,hu1,by rw [rb_1 rfl]; exact hrb,fun h=>absurd h (by decide : ¬ (2 : Int) = 6)⟩
theorem PlanAt.wide {bs : List Nat} {ws : List Int} {p j u d S K S' K' : Nat} (h : PlanAt bs ws p j u d S K) (hS : S ≤ S') (hK : K ≤ K') : PlanAt bs ws p j u d S' K':=by
 obtain ⟨x,q,j',u',h0,h1,h2,h3,h4,h5,h6,h7⟩:=h
 exact ⟨x,q,j',u',h0,h1,by omega,by omega,h4,h5,h6,h7⟩
theorem plan_any {bs : List Nat} (hs : Src bs) {ws : List Int} (hw : wsOk ws) (d p : Nat) (hd : d ≤ 4) (hp : p < 200000000) : PlanAt bs ws p 1 1 d 10000 20000:=by
 have z : ∀ d,d ≤ 4 → pzb 0 d ≤ 1500 ∧ prb 0 d ≤ 4010:=by decide
 have z2 : ∀ d,d ≤ 4 → pzb 1500 d ≤ 30000 ∧ prb 4010 d ≤ 30000:=by decide
 have z3 : pzb 0 1 ≤ 100 ∧ prb 0 1 ≤ 1010:=by decide
 have z4 : ∀ d,d ≤ 4 → pzb 100 d ≤ 10000 ∧ prb 1010 d ≤ 20000:=by decide
 have h0 : ∀ (u d p : Nat),u ≤ 1 → d ≤ 1 → p < 240000000 → PlanAt bs ws p 0 u d 100 1010:=fun u d p hu hd hp=>by
  have hd' : d = 0 ∨ d = 1:=by omega
  have z5:=z d (by omega)
  refine (plan_ind hs hw 0 0 0 250000000 (by omega) (by omega) (fun h=>by omega) d u p hu (by omega) (by omega) (by omega)).wide ?_ ?_
  ·rcases hd' with rfl | rfl
   ·decide
   ·exact z3.1
  ·rcases hd' with rfl | rfl
   ·decide
   ·exact z3.2
 have z6:=z4 d hd
 exact (plan_ind hs hw 100 1010 1 240000000 (by omega) (by omega) (fun _ u d p hu hd hp=>h0 u d p hu hd hp) d 1 p (by omega) (by omega) (by omega) (by omega)).wide z6.1 z6.2
end Go.Proofs.YtefldihjbaodnaaGreat
set_option maxHeartbeats 4000000
set_option maxRecDepth 100000
set_option linter.unusedVariables false
set_option linter.unusedSimpArgs false
namespace Go.Proofs.YtefldihjbaodnaaGreat
open Go.RowKit
theorem growB_ok (n : Nat) (h0 : 0 < n) (hn : n ≤ 1000000) : Does Tryz.prog 259 [] [.nul,I n] (.own 1000000 1 0) [.row 1 (List.replicate n (Bo false))]:=by
 have hp : D.renL [2000022] (List.replicate n (Bo false)) = List.replicate n (Bo false):=by rw [D.renL_map,List.map_replicate]; rfl
 refine Bk c_Z33 mixed 0 (go1 (cj3 @cast0 @Int.sub_self @Int.sub_zero) ?_)
 refine fin_L [2000022] ?_ ?_ rfl ?_
 repeat' (first|(conv in hold _=>simp (disch:=omega) only [go_sem,cast0,Int.sub_self,Int.sub_zero,hp])|exact trivial|exact Sub.refl _|omega)
theorem concatB_own (a b : List Bool) (h0 : 0 < a.length + b.length) (hl : a.length + b.length ≤ 100000) : Does Tryz.prog 249 [] [.sl 1 [boolsD a,boolsD b]] (.own 1000000 1 (a.length + b.length)) [.row 1 ((a ++ b).map Bo)]:=by
 have hg:=growB_ok (a.length + b.length) h0 (by omega)
 have e0 : (List.replicate (a.length + b.length) (Bo false)).take 0 = []:=rfl
 have ea:=take_all Bo a
 have hp : ∀ L,D.renL L (List.replicate (a.length + b.length) (Bo false)) = List.replicate (a.length + b.length) (Bo false):=fun L=>by rw [D.renL_map,List.map_replicate]; rfl
 have ec : (((a.length + b.length : Nat) : Int)) = (a.length : Int) + (b.length : Int):=by omega
 refine Bk c_Z25 mixed 0 (go1 trivial ?_)
 refine dw_for (c:=0) (l:=fun i=>[(0,.sl 1 [boolsD a,boolsD b]),(3,I (at3 0 (a.length : Int) (a.length + b.length : Nat) i)),(9,.sl 1 [boolsD a,boolsD b]),(10,I 2),(11,I (at3 0 1 2 i))]) 2 (fun _=>True) 0 trivial (Wk.list [] rfl rfl ?_) (fun i hi _=>?_) (by decide)
 ·repeat' (first|(conv in hold _=>simp (disch:=omega) only [go_sem,at3_0,Int.reduceAdd])|exact trivial|exact Sub.refl _|omega)
  first | exact rfl | exact ⟨rfl,rfl⟩
 ·have h3 : i = 0 ∨ i = 1 ∨ i = 2:=by omega
  rcases h3 with rfl | rfl | rfl
  ·refine go1 (cj2 @at3_0 @Int.zero_add) ?_
   refine ⟨by decide,trivial,Wk.list [] rfl rfl ?_⟩
   repeat' (first|(conv in hold _=>simp (disch:=omega) only [go_sem,at3_1,Nat.reduceAdd,Int.reduceAdd])|exact trivial|exact Sub.refl _|omega)
  ·refine go1 @at3_1 ?_
   refine ⟨by decide,trivial,Wk.list [] rfl rfl ?_⟩
   repeat' (first|(conv in hold _=>simp (disch:=omega) only [go_sem,at3_2,Nat.reduceAdd,Int.reduceAdd,ec])|exact trivial|exact Sub.refl _|omega)
  ·refine go1 @at3_2 ?_
   refine UcR [3000001] trivial (hg) (go1 trivial ?_)
   refine dw_for (c:=1) (l:=fun i=>[(6,.own 1000000 1 (at3 0 a.length (a.length + b.length) i)),(25,.sl 1 [boolsD a,boolsD b]),(26,I 2),(27,I (at3 0 1 2 i)),(1000000,.row 1 (at3 (List.replicate (a.length + b.length) (Bo false)) (a.map Bo) ((a ++ b).map Bo) i))]) 2 (fun _=>True) 0 trivial (Wk.list [3000001] rfl rfl ?_) (fun i hi _=>?_) (by decide)
   ·repeat' (first|(conv in hold _=>simp (disch:=omega) only [go_sem,at3_0,Int.reduceAdd,hp])|exact trivial|exact Sub.refl _|omega)
    first | exact rfl | exact ⟨rfl,rfl⟩
   ·have h3 : i = 0 ∨ i = 1 ∨ i = 2:=by omega
    rcases h3 with rfl | rfl | rfl
    ·refine go1 (cj2 @at3_0 @e0) ?_
     refine ⟨by decide,trivial,Wk.list [2000033] rfl rfl ?_⟩
     repeat' (first|(conv in hold _=>simp (disch:=omega) only [go_sem,at3_1,Nat.reduceAdd,Int.reduceAdd,e0])|exact trivial|exact Sub.refl _|omega)
    ·refine go1 (cj2 @at3_1 @ea) ?_
     refine ⟨by decide,trivial,Wk.list [2000033] rfl rfl ?_⟩
     repeat' (first|(conv in hold _=>simp (disch:=omega) only [go_sem,at3_2,Nat.reduceAdd,Int.reduceAdd,ea])|exact trivial|exact Sub.refl _|omega)
     rw [List.map_append]
    ·refine go1 @at3_2 ?_
     refine fin_L [1000000] ?_ ?_ rfl ?_
     repeat' (first|(conv in hold _=>simp (disch:=omega) only [go_sem,at3_2])|exact trivial|exact Sub.refl _|omega)
theorem repeatB_own (v : Bool) (n : Nat) (h0 : 0 < n) (h : n ≤ 1000) : Does Tryz.prog 250 [] [.sl 1 [Bo v],I n] (.own 1000000 1 n) [.row 1 (List.replicate n (Bo v))]:=by
 have hm:=mulU_ok n h
 have hz : ∀ L k,D.renL L (List.replicate k (Bo false)) = List.replicate k (Bo false):=fun L k=>by rw [D.renL_map,List.map_replicate]; rfl
 have hv : ∀ L k,D.renL L (List.replicate k (Bo v)) = List.replicate k (Bo v):=fun L k=>by rw [D.renL_map,List.map_replicate]; rfl
 have hzz : ∀ L j k,D.renL L (List.replicate j (Bo v) ++ List.replicate k (Bo false)) = List.replicate j (Bo v) ++ List.replicate k (Bo false):=fun L j k=>by rw [D.renL_map,List.map_append,List.map_replicate,List.map_replicate]; rfl
 have hc0 : cpyL (List.replicate n (Bo false)) 0 n [Bo v] = Bo v :: List.replicate (n - 1) (Bo false):=by
  obtain ⟨m,rfl⟩ : ∃ m,n = m + 1:=⟨n - 1,by omega⟩
  simp [cpyL,D.setAll,List.replicate_succ]
 have hm1 : min 1 n = 1:=by omega
 refine Bk c_Z26 mixed 0 (go1 @wrapU ?_)
 refine Uc (cj3 @wrapU @hc0 @hm1) (hm) (go1 (cj3 @wrapU @hc0 @hm1) ?_)
 refine dw_for (c:=1) (l:=fun i=>[(7,.own 1000000 1 n),(8,I (min (2 ^ i) n : Nat)),(1000000,.row 1 (List.replicate (min (2 ^ i) n) (Bo v) ++ List.replicate (n - min (2 ^ i) n) (Bo false)))]) n (fun _=>True) 0 trivial (Wk.list [2000030] rfl rfl ?_) (fun i hi _=>?_) (Nat.zero_le _)
 ·repeat' (first|(conv in hold _=>simp (disch:=omega) only [go_sem,hc0,hm1,hz,hv])|exact trivial|exact Sub.refl _|omega)
 ·have hC1 : 1 ≤ min (2 ^ i) n:=by have:=Nat.one_le_two_pow (n:=i); omega
  have hC2 : min (2 ^ i) n ≤ n:=Nat.min_le_right _ _
  have hnx : min (2 ^ i) n < n → i < n ∧ min (2 ^ (i + 1)) n = min (2 ^ i) n + min (min (2 ^ i) n) (n - min (2 ^ i) n):=fun hlt=>by
   have:=Nat.lt_two_pow_self (n:=i)
   rw [Nat.pow_succ]
   omega
  generalize min (2 ^ i) n = C at hC1 hC2 hnx ⊢
  have hcp : cpyL (List.replicate C (Bo v) ++ List.replicate (n - C) (Bo false)) C (n - C) (List.replicate C (Bo v)) = List.replicate (C + min C (n - C)) (Bo v) ++ List.replicate (n - (C + min C (n - C))) (Bo false):=rep_cpy _ _ C n hC2 _ rfl (min C (n - C)) rfl
  have hta : (List.replicate C (Bo v) ++ List.replicate (n - C) (Bo false)).take C = List.replicate C (Bo v):=List.take_left' List.length_replicate
  refine go1R trivial ?_
  (with_reducible first | refine dw_reg0 ?_ | refine dw_regB ?_)
  conv=>arg 3; whnf
  repeat' ((fail_if_success (with_reducible first | refine dw_reg0 ?_ | refine dw_regB ?_)); first | with_reducible refine acc_none ?_ | (conv in hold _=>simp (disch:=omega) only [go_sem,hz])|refine Stp.go ?_|(with_reducible first|refine it_pos rfl ?_|refine it_neg (by decide) ?_|refine st_nil rfl ?_|refine s_op ?_ ?_|exact trivial)|((with_reducible first|refine dw_reg0 ?_|refine dw_regB ?_);(conv=>arg 3;whnf))|(refine Spl.go (fun hq he=>?_) (fun hq he=>?_)<;>first|(exfalso;clear hq;omega)|((try first|(conv=>arg 8;simp only [hq])|(conv=>arg 4;simp only [hq]));clear hq))|((with_reducible first|refine c_split (fun hq=>?_) (fun hq=>?_)|refine q_split (fun hq=>?_) (fun hq=>?_))<;>(try first|(conv=>arg 8;simp only [hq])|(conv=>arg 4;simp only [hq])))|(with_reducible refine fin_0 ?_ (by first|rfl|(conv=>lhs;simp only [go_sem,hz])) ?_)|exact Sub.refl _|omega)
  ·obtain ⟨hin,hnx⟩:=hnx (by omega)
   obtain ⟨m,hmq⟩ : ∃ m,min C (n - C) = m:=⟨_,rfl⟩
   rw [hmq] at hcp hnx
   have hmc : m ≤ n:=by omega
   have ecm : ((C + m : Nat) : Int) = (C : Int) + (m : Int):=by omega
   rw [hnx]
   (with_reducible first | refine dw_reg0 ?_ | refine dw_regB ?_)
   conv=>arg 3; whnf
   refine go1 (cj3 @hta @hcp @hmq) ?_
   refine ⟨hin,trivial,Wk.list [1000000] rfl rfl ?_⟩
   repeat' (first|(conv in hold _=>simp (disch:=omega) only [go_sem,hzz,ecm])|exact trivial|exact Sub.refl _|omega)
  ·obtain rfl : C = n:=by omega
   repeat' (first|with_reducible refine acc_none ?_ | (conv in hold _=>simp (disch:=omega) only [go_sem,Nat.sub_self,List.replicate_zero])|refine Stp.go ?_|(with_reducible first|refine it_pos rfl ?_|refine it_neg (by decide) ?_|refine st_nil rfl ?_|refine s_op ?_ ?_|exact trivial)|((with_reducible first|refine dw_reg0 ?_|refine dw_regB ?_);(conv=>arg 3;whnf))|(refine Spl.go (fun hq he=>?_) (fun hq he=>?_)<;>first|(exfalso;clear hq;omega)|((try first|(conv=>arg 8;simp only [hq])|(conv=>arg 4;simp only [hq]));clear hq))|((with_reducible first|refine c_split (fun hq=>?_) (fun hq=>?_)|refine q_split (fun hq=>?_) (fun hq=>?_))<;>(try first|(conv=>arg 8;simp only [hq])|(conv=>arg 4;simp only [hq])))|(with_reducible refine fin_0 ?_ (by first|rfl|(conv=>lhs;simp only [go_sem,Nat.sub_self,List.replicate_zero])) ?_)|exact Sub.refl _|omega)
   refine fin_L [1000000] ?_ ?_ rfl ?_
   repeat' (first|(conv in hold _=>simp (disch:=omega) only [go_sem,Nat.sub_self,List.replicate_zero,hv])|exact trivial|exact Sub.refl _|omega)
end Go.Proofs.YtefldihjbaodnaaGreat
