/-
 Drawn plans. No condition.
-/
import Derived.Test.YtepkimfmncedcaaGreatJSVDst
import Derived.Test.YtepkimfmncedcaaGreatJSDcWDfP
import Derived.Test.YtepkimfmncedcaaGreatJSVTru
import Derived.Test.YtepkimfmncedcaaGreatJSDcVWid
import Derived.Test.YtepkimfmncedcaaGreatKSDca
import Derived.Test.YtepkimfmncedcaaGreatKSDcj
import Derived.Test.YtepkimfmncedcaaGreatJSVGo
set_option maxHeartbeats 4000000
set_option maxRecDepth 100000
set_option linter.unusedVariables false
set_option linter.unusedSimpArgs false
namespace Go.Proofs.YtepkimfmncedcaaGreat
open Go.RowKit
def pzb (S : Nat) : Nat → Nat
 | 0=>0
 | d + 1=>2 * pzb S d + S + 100
def prb (K : Nat) : Nat → Nat
 | 0=>10
 | d + 1=>prb K d + K + 1000
theorem psz_one (k t : Int) (es : List E) (cs : List Int) (x : Pl) : psz (.mk k t es cs [x]) = eszL es + cs.length + (1 + psz x):=by
 rw [psz,pszL,pszL]; omega
theorem psz_two (k t : Int) (es : List E) (cs : List Int) (x y : Pl) : psz (.mk k t es cs [x,y]) = eszL es + cs.length + (1 + psz x + (1 + psz y)):=by
 rw [psz,pszL,pszL,pszL]; omega
theorem eszL_1 (e : E) : eszL [e] = esz e:=by rw [eszL,eszL]; omega
theorem psz_scan (t : Int) : psz (.mk 1 t [] [] []) = 0:=by rw [psz,eszL,pszL]; rfl
def PlanAt (bs : List Nat) (ws : List Int) (p j u d : Nat) (S K : Nat) : Prop:=∃ (x : Pl) (q j' u' : Nat),(DPlan bs ws p j u d x q j' u' ∧ OPlan bs ws p j u d x q j' u') ∧ p ≤ q ∧ q ≤ p + K ∧ psz x ≤ S ∧ j' ≤ j ∧ u' ≤ u ∧ rb x ≤ capB (j - j') (u - u') ∧ (x.k = 6 → x.es = [])
theorem pD_pur (x : Pl) : (pD x).pur = true:=by
 have:=plans_pur [x]
 rw [List.map_cons,D.purL,Bool.and_eq_true] at this
 exact this.1
theorem wid_of {ws : List Int} (hw : wsOk ws) (x : Pl) (hx : psz x ≤ 900000) : ∃ n : Int,(0 ≤ n ∧ n ≤ 6) ∧ DWid ws x n:=by
 obtain ⟨n,hn,h,_⟩:=width_ok hw x (by omega) 8 (by omega)
 exact ⟨n,hn,Does.lent (H:=[wrD ws]) (ds:=[pD x,.own 1000000 1 ws.length,I 8]) h rfl (Lent.cons (.same _ (pD_pur x)) (Lent.cons (Lent.row 0 rfl (List.length_map ..) _ rfl) (Lent.one (.same _ rfl)))) (flats_1 (flat_ints _)) flats_0 rfl⟩
theorem plan_ind {bs : List Nat} (hs : Src bs) {ws : List Int} (hw : wsOk ws) (S K j T : Nat) (hT : T ≤ 250000000) (hj : j ≤ 1) (hoth : j = 1 → ∀ (u d p : Nat),u ≤ 1 → d ≤ 1 → p < T → PlanAt bs ws p 0 u d S K) :
  ∀ (d u p : Nat),u ≤ 1 → d ≤ 100 → p + prb K d < T → pzb S d ≤ 400000 → PlanAt bs ws p j u d (pzb S d) (prb K d):=by
 have hl:=hw.1
 intro d
 induction d with
 | zero=>
  intro u p hu hd hp hz
  rw [prb] at hp
  obtain ⟨t,h1,_⟩:=pick_ok hs p (by omega) ws.length (by omega)
  exact ⟨_,_,_,_,⟨plan_zero (by omega) h1,oplan_zero (by omega) h1⟩,by omega,by rw [prb]; omega,by rw [psz_scan]; exact Nat.zero_le _,Nat.le_refl _,Nat.le_refl _,by rw [rb_0 rfl]; exact cap_5 _ _,fun h=>absurd h (by decide : ¬ (1 : Int) = 6)⟩
 | succ d ih=>
  intro u p hu hd hp hz
  rw [prb] at hp
  rw [pzb] at hz
  obtain ⟨t,h1,_⟩:=pick_ok hs p (by omega) ws.length (by omega)
  obtain ⟨k6,h2,_⟩:=pick_ok hs (p + 1) (by omega) 6 (by omega)
  by_cases h6 : k6 = 0
  ·subst h6
   exact ⟨_,_,_,_,⟨plan_scan (by omega) d h1 h2,oplan_scan (by omega) d h1 h2⟩,by omega,by rw [prb]; omega,by rw [psz_scan]; exact Nat.zero_le _,Nat.le_refl _,Nat.le_refl _,by rw [rb_0 rfl]; exact cap_5 _ _,fun h=>absurd h (by decide : ¬ (1 : Int) = 6)⟩
  obtain ⟨x,q,j1,u1,⟨hk,_⟩,hq0,hq1,hxs,hj1,hu1,hrb,_⟩:=ih u (p + 2) hu (by omega) (by omega) (by omega)
  obtain ⟨n,hn,hwx⟩:=wid_of hw x (by omega)
  obtain ⟨c,h3,c0,c1,_⟩:=pick_ok hs q (by omega) 10 (by omega)
  have hc9:=c1 (by omega)
  have hpre : Pre bs ws p j u d x t k6 c n q j1 u1:=⟨by omega,by omega,h1,h2,h6,hk,hwx,hn,h3,by omega,by omega⟩
  obtain ⟨e,q2,hce,he0,he1,hez⟩:=randomCondition_ok hs n (by omega) (q + 1) (by omega)
  have hfz : psz (.mk 2 0 [e] [] [x]) = esz e + 0 + (1 + psz x):=by rw [psz_one,eszL_1]; rfl
  rw [PlanAt,prb,pzb]
  by_cases hA : c = 0 ∨ c = 1 ∨ c = 2
  ·exact ⟨_,_,_,_,⟨plan_fil hpre hA hce,oplan_fil hpre hA hce⟩,by omega,by omega,by omega,hj1,hu1,by rw [rb_1 rfl]; exact hrb,fun h=>absurd h (by decide : ¬ (2 : Int) = 6)⟩
  by_cases hB : c = 3 ∨ c = 4
  ·obtain ⟨mm,hmm,m0,m1,_⟩:=pick_ok hs (q + 1) (by omega) 2 (by omega)
   have hm1:=m1 (by omega)
   obtain ⟨m,rfl⟩:=Int.eq_ofNat_of_zero_le m0
   obtain ⟨es,ps,hel,h0,hes,hp0,hp1⟩:=draws (DOne bs n) 600000000 60 (fun p hp=>one_drawn hs n (by omega) p hp) (1 + m) (q + 2) (by omega)
   have hpj:=plan_proj hpre hB hmm (by omega) hel h0 hes
   have hpo:=oplan_proj hpre hB hmm (by omega) hel h0 hes
   have hez:=eszL_bound es (fun i e he=>(hes i e he).2)
   refine ⟨_,_,_,_,⟨hpj,hpo⟩,by omega,by omega,?_,hj1,hu1,by rw [rb_1 rfl]; exact hrb,fun h=>absurd h (by decide : ¬ (3 : Int) = 6)⟩
   rw [psz_one]
   show eszL es + 0 + (1 + psz x) ≤ _
   rw [hel] at hez
   omega
  by_cases hC : (c = 5 ∨ c = 6) ∧ 0 < j1 ∧ n ≤ 4
  ·obtain ⟨hc5,hj0,hn4⟩:=hC
   obtain ⟨dd,hdd,d0,d1,_⟩:=pick_ok hs (q + 1) (by omega) 2 (by omega)
   have hd1:=d1 (by omega)
   obtain ⟨m,rfl⟩:=Int.eq_ofNat_of_zero_le d0
   have hj11 : j1 - 1 = 0:=by omega
   obtain ⟨y,q3,j2,u2,⟨hy,_⟩,hy0,hy1,hyz,hj2,hu2,hrby,_⟩:=hoth (by omega) u1 m (q + 2) (by omega) (by omega) (by omega)
   rw [← hj11] at hy
   obtain ⟨n2,hn2,hwy⟩:=wid_of hw y (by omega)
   by_cases hwide : n + n2 ≤ 6
   ·obtain ⟨k,hkk,hkm⟩:=one_ok hs q3 (by omega) [4,5] (by decide) (by decide)
    obtain ⟨e',q4,hce',he0',he1',hez'⟩:=randomCondition_ok hs (n + n2) (by omega) (q3 + 1) (by omega)
    have hk6 : k ≠ 6:=by
     rcases List.mem_cons.1 hkm with rfl | hkm
     ·decide
     ·rw [List.mem_singleton.1 hkm]; decide
    have hb0 : j - j1 = 0:=by omega
    have hb1 : j1 - 1 - j2 = 0:=by omega
    have hjb : rb (.mk k 0 [e'] [] [x,y]) ≤ capB (j - j2) (u - u2):=by
     rw [rb_2 (q:=x) (r:=y) rfl,if_neg (show ¬ (Pl.mk k 0 [e'] [] [x,y]).k = 6 from hk6)]
     rw [hb0] at hrb
     rw [show 0 - j2 = 0 by omega] at hrby
     refine Nat.le_trans (cap_join hrb hrby (by omega)) (cap_mono (by omega) (by omega))
    have hjz : psz (.mk k 0 [e'] [] [x,y]) = esz e' + 0 + (1 + psz x + (1 + psz y)):=by rw [psz_two,eszL_1]; rfl
    exact ⟨_,_,_,_,⟨plan_join hpre hc5 hj0 hn4 hdd hy hwy hn2 hwide hkk hce',oplan_join hpre hc5 hj0 hn4 hdd hy hwy hn2 hwide hkk hce'⟩,by omega,by omega,by omega,by omega,by omega,hjb,fun h=>absurd h hk6⟩
   ·obtain ⟨e',q4,hce',he0',he1',hez'⟩:=randomCondition_ok hs n (by omega) q3 (by omega)
    have hfz' : psz (.mk 2 0 [e'] [] [x]) = esz e' + 0 + (1 + psz x):=by rw [psz_one,eszL_1]; rfl
    exact ⟨_,_,_,_,⟨plan_wide hpre hc5 hj0 hn4 hdd hy hwy hn2 hwide hce',oplan_wide hpre hc5 hj0 hn4 hdd hy hwy hn2 hwide hce'⟩,by omega,by omega,by omega,by omega,by omega,by rw [rb_1 rfl]; exact Nat.le_trans hrb (cap_mono (by omega) (by omega)),fun h=>absurd h (by decide : ¬ (2 : Int) = 6)⟩
  by_cases hD : c = 7 ∧ 0 < u1
  ·have hub : rb (.mk 6 0 [] [] [x,.mk 2 0 [e] [] [x]]) ≤ capB (j - j1) (u - (u1 - 1)):=by
    rw [rb_2 (q:=x) (r:=.mk 2 0 [e] [] [x]) rfl,if_pos (show (Pl.mk 6 0 [] [] [x,.mk 2 0 [e] [] [x]]).k = 6 from rfl),rb_1 (p:=.mk 2 0 [e] [] [x]) (q:=x) rfl,show u - (u1 - 1) = 1 by omega]
    rw [show u - u1 = 0 by omega] at hrb
    exact cap_uni hrb
   have huz : psz (.mk 6 0 [] [] [x,.mk 2 0 [e] [] [x]]) = 0 + 0 + (1 + psz x + (1 + psz (.mk 2 0 [e] [] [x]))):=by rw [psz_two]; rfl
   exact ⟨_,_,_,_,⟨plan_uni hpre hD.1 hD.2 (by omega) hce,oplan_uni hpre hD.1 hD.2 (by omega) hce⟩,by omega,by omega,by omega,hj1,by omega,hub,fun _=>rfl⟩
  by_cases hE : c = 8
  ·have hdz : psz (.mk 7 0 [] [] [x]) = 0 + 0 + (1 + psz x):=by rw [psz_one]; rfl
   exact ⟨_,_,_,_,⟨plan_dist hpre hE,oplan_dist hpre hE⟩,by omega,by omega,by omega,hj1,hu1,by rw [rb_1 rfl]; exact hrb,fun h=>absurd h (by decide : ¬ (7 : Int) = 6)⟩
  by_cases hF : c = 9
  ·by_cases hn1 : 1 < n
   ·obtain ⟨g,hg,_⟩:=pick_ok hs (q + 1) (by omega) n (by omega)
    have hgz : psz (.mk 8 0 [] [g] [x]) = 0 + 1 + (1 + psz x):=by rw [psz_one]; rfl
    exact ⟨_,_,_,_,⟨plan_grpc hpre hF hn1 hg,oplan_grpc hpre hF hn1 hg⟩,by omega,by omega,by omega,hj1,hu1,by rw [rb_1 rfl]; exact hrb,fun h=>absurd h (by decide : ¬ (8 : Int) = 6)⟩
   ·have hgz : psz (.mk 8 0 [] [] [x]) = 0 + 0 + (1 + psz x):=by rw [psz_one]; rfl
    exact ⟨_,_,_,_,⟨plan_grp hpre hF hn1,oplan_grp hpre hF hn1⟩,by omega,by omega,by omega,hj1,hu1,by rw [rb_1 rfl]; exact hrb,fun h=>absurd h (by decide : ¬ (8 : Int) = 6)⟩
  ·have hdf : ((c = 5 ∨ c = 6) ∧ ¬ (0 < j1 ∧ n ≤ 4)) ∨ (c = 7 ∧ u1 = 0):=by
    by_cases h5 : c = 5 ∨ c = 6
    ·exact Or.inl ⟨h5,fun h=>hC ⟨h5,h.1,h.2⟩⟩
    ·have h7 : c = 7:=by omega
     refine Or.inr ⟨h7,?_⟩
     by_cases h0 : 0 < u1
     ·exact (hD ⟨h7,h0⟩).elim
     ·omega
   exact ⟨_,_,_,_,⟨plan_def hpre hdf hce,oplan_def hpre hdf hce⟩,by omega,by omega,by omega,hj1,hu1,by rw [rb_1 rfl]; exact hrb,fun h=>absurd h (by decide : ¬ (2 : Int) = 6)⟩
theorem PlanAt.wide {bs : List Nat} {ws : List Int} {p j u d S K S' K' : Nat} (h : PlanAt bs ws p j u d S K) (hS : S ≤ S') (hK : K ≤ K') : PlanAt bs ws p j u d S' K':=by
 obtain ⟨x,q,j',u',h0,h1,h2,h3,h4,h5,h6,h7⟩:=h
 exact ⟨x,q,j',u',h0,h1,by omega,by omega,h4,h5,h6,h7⟩
theorem plan_any {bs : List Nat} (hs : Src bs) {ws : List Int} (hw : wsOk ws) (d p : Nat) (hd : d ≤ 4) (hp : p < 200000000) : PlanAt bs ws p 1 1 d 10000 20000:=by
 have z : ∀ d,d ≤ 4 → pzb 0 d ≤ 1500 ∧ prb 0 d ≤ 4010:=by decide
 have z2 : ∀ d,d ≤ 4 → pzb 1500 d ≤ 30000 ∧ prb 4010 d ≤ 30000:=by decide
 have z3 : pzb 0 1 ≤ 100 ∧ prb 0 1 ≤ 1010:=by decide
 have z4 : ∀ d,d ≤ 4 → pzb 100 d ≤ 10000 ∧ prb 1010 d ≤ 20000:=by decide
 have h0 : ∀ (u d p : Nat),u ≤ 1 → d ≤ 1 → p < 240000000 → PlanAt bs ws p 0 u d 100 1010:=fun u d p hu hd hp=>by
  have hd' : d = 0 ∨ d = 1:=by omega
  have z5:=z d (by omega)
  refine (plan_ind hs hw 0 0 0 250000000 (by omega) (by omega) (fun h=>by omega) d u p hu (by omega) (by omega) (by omega)).wide ?_ ?_
  ·rcases hd' with rfl | rfl
   ·decide
   ·exact z3.1
  ·rcases hd' with rfl | rfl
   ·decide
   ·exact z3.2
 have z6:=z4 d hd
 exact (plan_ind hs hw 100 1010 1 240000000 (by omega) (by omega) (fun _ u d p hu hd hp=>h0 u d p hu hd hp) d 1 p (by omega) (by omega) (by omega) (by omega)).wide z6.1 z6.2
end Go.Proofs.YtepkimfmncedcaaGreat
set_option maxHeartbeats 4000000
set_option maxRecDepth 100000
set_option linter.unusedVariables false
set_option linter.unusedSimpArgs false
namespace Go.Proofs.YtepkimfmncedcaaGreat
open Go.RowKit
theorem partB_ok (ws : List Int) (sets : List Bool) (p : Pl) (hf : fields p) (hsc : p.k = 1 → 0 ≤ p.t ∧ p.t ≤ (sets.length : Int) - 1) (kp : Bool) (hkp : p.k = 3 → ∀ a : Bool,Does Tryz.prog 268 [] [.agg [intsD ws,boolsD sets],pD p,Bo a] (Bo (a && kp)) []) {l : List Bool} (hl : l.length = p.ks.length) : Does Tryz.prog 93 [.obj [dfV ws sets]] [pD p,boolsD l,.ref 1000000 0] (Bo (dfK sets p.k p.t kp l)) [.obj [dfV ws sets]]:=by
 have r:=propertyB_ok ws sets p hf hsc kp hkp hl
 refine Bk c_Z24 mixed 1 (go1 trivial ?_)
 refine Uc trivial (r) (go1 trivial ?_)
 refine fin_L [1000000] ?_ ?_ rfl ?_
 repeat' (first|(conv in hold _=>simp (disch:=omega) only [go_sem])|exact trivial|exact Sub.refl _|omega)
theorem foldB_step (ws : List Int) (sets : List Bool) (p : Pl) (hs : psz p ≤ 1048576) (q : List Bool) (hl : q.length = p.ks.length) (b : Bool)
  (hk : ∀ (i : Nat) (x : Pl) (c : Bool),p.ks[i]? = some x → q[i]? = some c → Does Tryz.prog 92 [.obj [dfV ws sets]] [pD x,.fn 93 [.ref 1000000 0]] (Bo c) [.obj [dfV ws sets]])
  (r : Does Tryz.prog 93 [.obj [dfV ws sets]] [pD p,boolsD q,.ref 1000000 0] (Bo b) [.obj [dfV ws sets]]) : Does Tryz.prog 92 [.obj [dfV ws sets]] [pD p,.fn 93 [.ref 1000000 0]] (Bo b) [.obj [dfV ws sets]]:=by
 rw [psz_eq] at hs
 have hlen:=pszL_len p.ks
 refine Bk c_Z58 mixed 1 (go1 trivial ?_)
 refine dw_for (c:=3) (l:=fun i=>[(1,.fn 93 [.ref 1000000 0]),(2,.ref 1000001 0),(5,.own 1000002 1 i),(9,.sl 5 (p.ks.map pD)),(10,I p.ks.length),(11,I i),(1000000,.obj [dfV ws sets]),(1000001,.obj [I p.k,I p.t,.sl 5 (p.es.map eD),intsD p.cs,.sl 5 (p.ks.map pD)]),(1000002,.row 1 ((q.take i).map Bo))]) p.ks.length (fun _=>True) 0 trivial ((wk_row 5 2000020 1 (by decide) (by decide) rfl rfl).trans (Wk.list [1000000,2000002,2000020] rfl rfl ?_)) (fun i hi _=>?_) (Nat.zero_le _)
 ·repeat' (first|(conv in hold _=>simp (disch:=omega) only [go_sem])|exact trivial|exact Sub.refl _|omega)
  exact rfl
 ·have htl : (q.take i).length = i:=by rw [List.length_take]; omega
  have hmk:=take_map Bo (vs:=q) (i:=i) (by omega)
  by_cases hil : i < p.ks.length
  ·obtain ⟨x,hx⟩ : ∃ x,p.ks[i]? = some x:=⟨_,List.getElem?_eq_getElem hil⟩
   obtain ⟨c,hqx,_⟩:=getB_ex (l:=q) (i:=i) (by omega)
   have hix:=hk i x c hx hqx
   have hnx:=take_next hqx
   refine go1 @hx ?_
   refine UcR [1000000] @htl (hix) (go1 @htl ?_)
   refine ⟨hil,trivial,Wk.list [1000000,1000001,2000020] rfl rfl ?_⟩
   repeat' (first|(conv in hold _=>simp (disch:=omega) only [go_sem,List.length_map,htl])|exact trivial|exact Sub.refl _|omega)
   rw [hmk,hnx,List.map_append]
   rfl
  ·obtain rfl : i = p.ks.length:=by omega
   have e1 : q.take p.ks.length = q:=List.take_of_length_le (by omega)
   have e2 : (q.map Bo).take p.ks.length = q.map Bo:=List.take_of_length_le (by rw [List.length_map]; omega)
   refine go1C @e1 ?_
   refine s_pre (pre_frz (t:=24) (g:=1000002) (by decide) (by decide) rfl ?_) ?_
   rotate_left
   refine go1 (cj3 @e1 @e2 @hl) ?_
   refine v_fn ((by kernel_rfl)) ?_
   refine UcR [1000000] trivial (r) (go1 trivial ?_)
   refine fin_L [1000000] ?_ ?_ rfl ?_
   repeat' (first|(conv in hold _=>simp (disch:=omega) only [go_sem])|exact trivial|exact Sub.refl _|omega)
   exact bools_pur _
theorem all_next {q : List Bool} {i : Nat} {c : Bool} (h : q[i]? = some c) : (q.take (i + 1)).all id = ((q.take i).all id && c):=by
 rw [take_next h,List.all_append,List.all_cons,List.all_nil,Bool.and_true]
 rfl
theorem all_f {q : List Bool} {i : Nat} (h : q[i]? = some false) : q.all id = false:=by
 rw [← Bool.not_eq_true,List.all_eq_true]
 intro ha
 have:=ha false (List.mem_of_getElem? h)
 cases this
theorem specB_step (ws : List Int) (sets : List Bool) (p : Pl) (hf : fields p) (hlen : p.ks.length ≤ 1048576) (hsc : p.k = 1 → 0 ≤ p.t ∧ p.t ≤ (sets.length : Int) - 1) (kp : Bool) (n : Int) (hn : 0 ≤ n ∧ n ≤ 6)
  (hkp : p.k = 3 → ∀ x0,p.ks[0]? = some x0 → Does Tryz.prog 69 [] [pD x0,intsD ws,I 8] (I n) [] ∧ Does Tryz.prog 95 [] [.sl 5 (p.es.map eD),I n] (Bo kp) []) (q : List Bool) (hl : q.length = p.ks.length)
  (hk : ∀ (i : Nat) (x : Pl) (c : Bool),p.ks[i]? = some x → q[i]? = some c → Does Tryz.prog 51 [] [pD x,intsD ws,boolsD sets] (Bo c) []) : Does Tryz.prog 51 [] [pD p,intsD ws,boolsD sets] (Bo (dfK sets p.k p.t kp q)) []:=by
 unfold fields at hf
 unfold dfK
 by_cases h1 : p.k = 1
 ·obtain ⟨x,hx,hg⟩:=getB_ex (l:=sets) (i:=p.t.toNat) (by have:=hsc h1; omega)
  have hs:=hsc h1
  rw [if_pos h1,hg]
  exact Bg c_Z72 mixed (go0 @hx)
 ·rw [if_neg h1]
  by_cases h6 : p.k = 6
  ·rw [if_pos h6]
   exact Bg c_Z72 mixed (go0 trivial)
  ·rw [if_neg h6]
   by_cases h78 : p.k = 7 ∨ p.k = 8
   ·rw [if_pos h78]
    exact Bg c_Z72 mixed (go0 trivial)
   ·rw [if_neg h78]
    by_cases h3 : p.k = 3
    ·obtain ⟨x0,hx0⟩ : ∃ x,p.ks[0]? = some x:=⟨_,List.getElem?_eq_getElem (by omega)⟩
     obtain ⟨c0,hc0,gc⟩:=getB_ex (l:=q) (i:=0) (by omega)
     obtain ⟨r1,r2⟩:=hkp h3 x0 hx0
     have r3:=hk 0 x0 c0 hx0 hc0
     rw [if_pos h3,gc]
     cases kp with
     | true=>
      rw [Bool.and_true]
      refine Bg c_Z72 mixed (go1 @hx0 ?_)
      refine Uc trivial (r1) (go1 trivial ?_)
      refine Uc @hx0 (r2) (go1 @hx0 ?_)
      exact Uc trivial (r3) (go0 trivial)
     | false=>
      rw [Bool.and_false]
      refine Bg c_Z72 mixed (go1 @hx0 ?_)
      refine Uc trivial (r1) (go1 trivial ?_)
      exact Uc trivial (r2) (go0 trivial)
    ·rw [if_neg h3]
     refine Bg c_Z72 mixed (go1 trivial ?_)
     refine dw_for (c:=1) (l:=fun i=>[(1,intsD ws),(2,boolsD sets),(3,.ref 1000000 0),(7,I i),(1000000,.obj [I p.k,I p.t,.sl 5 (p.es.map eD),intsD p.cs,.sl 5 (p.ks.map pD)])]) p.ks.length (fun i=>(q.take i).all id = true) 0 (by rw [List.take_zero]; rfl) (Wk.list [2000003] rfl rfl ?_) (fun i hi hJ=>?_) (Nat.zero_le _)
     ·repeat' (first|(conv in hold _=>simp (disch:=omega) only [go_sem])|exact trivial|exact Sub.refl _|omega)
      exact rfl
     ·by_cases hil : i < p.ks.length
      ·obtain ⟨x,hx⟩ : ∃ x,p.ks[i]? = some x:=⟨_,List.getElem?_eq_getElem hil⟩
       obtain ⟨c,hqx,_⟩:=getB_ex (l:=q) (i:=i) (by omega)
       have hix:=hk i x c hx hqx
       have hnx:=all_next hqx
       cases c with
       | true=>
        refine go1 @hx ?_
        refine Uc trivial (hix) (go1 trivial ?_)
        refine ⟨hil,by rw [hnx,hJ]; rfl,Wk.list [1000000] rfl rfl ?_⟩
        repeat' (first|(conv in hold _=>simp (disch:=omega) only [go_sem])|exact trivial|exact Sub.refl _|omega)
       | false=>
        rw [all_f hqx]
        refine go1 @hx ?_
        exact Uc trivial (hix) (go0 trivial)
      ·obtain rfl : i = p.ks.length:=by omega
       rw [List.take_of_length_le (by omega)] at hJ
       rw [hJ]
       exact go0 trivial
end Go.Proofs.YtepkimfmncedcaaGreat
