/-
  Drawn plans. No condition.
-/
import Derived.Test.YtgpdmgaemhelgaaGreatJSVRp
import Derived.Test.YtgpdmgaemhelgaaGreatKSVLend
import Derived.Test.YtgpdmgaemhelgaaGreatJSVRwA
import Derived.Test.YtgpdmgaemhelgaaGreatJSVClC
import Derived.Test.YtgpdmgaemhelgaaGreatJSVRej
import Derived.Test.YtgpdmgaemhelgaaGreatJSVCond
set_option maxHeartbeats 4000000
set_option maxRecDepth 100000
set_option linter.unusedVariables false
set_option linter.unusedSimpArgs false
namespace Go.Proofs.YtgpdmgaemhelgaaGreat
open Go.RowKit
def pzb (S : Nat) : Nat → Nat
 | 0=>0
 | d + 1=>2 * pzb S d + S + 100
def prb (K : Nat) : Nat → Nat
 | 0=>10
 | d + 1=>prb K d + K + 1000
theorem psz_one (k t : Int) (es : List E) (cs : List Int) (x : Pl) : psz (.mk k t es cs [x]) = eszL es + cs.length + (1 + psz x):=by
 rw [psz,pszL,pszL]; omega
theorem psz_two (k t : Int) (es : List E) (cs : List Int) (x y : Pl) : psz (.mk k t es cs [x,y]) = eszL es + cs.length + (1 + psz x + (1 + psz y)):=by
 rw [psz,pszL,pszL,pszL]; omega
theorem eszL_1 (e : E) : eszL [e] = esz e:=by rw [eszL,eszL]; omega
theorem psz_scan (t : Int) : psz (.mk 1 t [] [] []) = 0:=by rw [psz,eszL,pszL]; rfl
def PlanAt (bs : List Nat) (ws : List Int) (p j u d : Nat) (S K : Nat) : Prop:=∃ (x : Pl) (q j' u' : Nat),(DPlan bs ws p j u d x q j' u' ∧ OPlan bs ws p j u d x q j' u') ∧ p ≤ q ∧ q ≤ p + K ∧ psz x ≤ S ∧ j' ≤ j ∧ u' ≤ u ∧ rb x ≤ capB (j - j') (u - u') ∧ (x.k = 6 → x.es = [])
theorem pD_pur (x : Pl) : (pD x).pur = true:=by
 have:=plans_pur [x]
 rw [List.map_cons,D.purL,Bool.and_eq_true] at this
 exact this.1
theorem wid_of {ws : List Int} (hw : wsOk ws) (x : Pl) (hx : psz x ≤ 900000) : ∃ n : Int,(0 ≤ n ∧ n ≤ 6) ∧ DWid ws x n:=by
 obtain ⟨n,hn,h,_⟩:=width_ok hw x (by omega) 8 (by omega)
 exact ⟨n,hn,Does.lent (H:=[wrD ws]) (ds:=[pD x,.own 1000000 1 ws.length,I 8]) h rfl (Lent.cons (.same _ (pD_pur x)) (Lent.cons (Lent.row 0 rfl (List.length_map ..) _ rfl) (Lent.one (.same _ rfl)))) (flats_1 (flat_ints _)) flats_0 rfl⟩
theorem plan_ind {bs : List Nat} (hs : Src bs) {ws : List Int} (hw : wsOk ws) (S K j T : Nat) (hT : T ≤ 250000000) (hj : j ≤ 1) (hoth : j = 1 → ∀ (u d p : Nat),u ≤ 1 → d ≤ 1 → p < T → PlanAt bs ws p 0 u d S K) :
  ∀ (d u p : Nat),u ≤ 1 → d ≤ 100 → p + prb K d < T → pzb S d ≤ 400000 → PlanAt bs ws p j u d (pzb S d) (prb K d):=by
 have hl:=hw.1
 intro d
 induction d with
 | zero=>
  intro u p hu hd hp hz
  rw [prb] at hp
  obtain ⟨t,h1,_⟩:=pick_ok hs p (by omega) ws.length (by omega)
  exact ⟨_,_,_,_,⟨plan_zero (by omega) h1,oplan_zero (by omega) h1⟩,by omega,by rw [prb]; omega,by rw [psz_scan]; exact Nat.zero_le _,Nat.le_refl _,Nat.le_refl _,by rw [rb_0 rfl]; exact cap_5 _ _,fun h=>absurd h (by decide : ¬ (1 : Int) = 6)⟩
 | succ d ih=>
  intro u p hu hd hp hz
  rw [prb] at hp
  rw [pzb] at hz
  obtain ⟨t,h1,_⟩:=pick_ok hs p (by omega) ws.length (by omega)
  obtain ⟨k6,h2,_⟩:=pick_ok hs (p + 1) (by omega) 6 (by omega)
  by_cases h6 : k6 = 0
  ·subst h6
   exact ⟨_,_,_,_,⟨plan_scan (by omega) d h1 h2,oplan_scan (by omega) d h1 h2⟩,by omega,by rw [prb]; omega,by rw [psz_scan]; exact Nat.zero_le _,Nat.le_refl _,Nat.le_refl _,by rw [rb_0 rfl]; exact cap_5 _ _,fun h=>absurd h (by decide : ¬ (1 : Int) = 6)⟩
  obtain ⟨x,q,j1,u1,⟨hk,_⟩,hq0,hq1,hxs,hj1,hu1,hrb,_⟩:=ih u (p + 2) hu (by omega) (by omega) (by omega)
  obtain ⟨n,hn,hwx⟩:=wid_of hw x (by omega)
  obtain ⟨c,h3,c0,c1,_⟩:=pick_ok hs q (by omega) 10 (by omega)
  have hc9:=c1 (by omega)
  have hpre : Pre bs ws p j u d x t k6 c n q j1 u1:=⟨by omega,by omega,h1,h2,h6,hk,hwx,hn,h3,by omega,by omega⟩
  obtain ⟨e,q2,hce,he0,he1,hez⟩:=randomCondition_ok hs n (by omega) (q + 1) (by omega)
  have hfz : psz (.mk 2 0 [e] [] [x]) = esz e + 0 + (1 + psz x):=by rw [psz_one,eszL_1]; rfl
  rw [PlanAt,prb,pzb]
  by_cases hA : c = 0 ∨ c = 1 ∨ c = 2
  ·exact ⟨_,_,_,_,⟨plan_fil hpre hA hce,oplan_fil hpre hA hce⟩,by omega,by omega,by omega,hj1,hu1,by rw [rb_1 rfl]; exact hrb,fun h=>absurd h (by decide : ¬ (2 : Int) = 6)⟩
  by_cases hB : c = 3 ∨ c = 4
  ·obtain ⟨mm,hmm,m0,m1,_⟩:=pick_ok hs (q + 1) (by omega) 2 (by omega)
   have hm1:=m1 (by omega)
   obtain ⟨m,rfl⟩:=Int.eq_ofNat_of_zero_le m0
   obtain ⟨es,ps,hel,h0,hes,hp0,hp1⟩:=draws (DOne bs n) 600000000 60 (fun p hp=>one_drawn hs n (by omega) p hp) (1 + m) (q + 2) (by omega)
   have hpj:=plan_proj hpre hB hmm (by omega) hel h0 hes
   have hpo:=oplan_proj hpre hB hmm (by omega) hel h0 hes
   have hez:=eszL_bound es (fun i e he=>(hes i e he).2)
   refine ⟨_,_,_,_,⟨hpj,hpo⟩,by omega,by omega,?_,hj1,hu1,by rw [rb_1 rfl]; exact hrb,fun h=>absurd h (by decide : ¬ (3 : Int) = 6)⟩
   rw [psz_one]
   show eszL es + 0 + (1 + psz x) ≤ _
   rw [hel] at hez
   omega
  by_cases hC : (c = 5 ∨ c = 6) ∧ 0 < j1 ∧ n ≤ 4
  ·obtain ⟨hc5,hj0,hn4⟩:=hC
   obtain ⟨dd,hdd,d0,d1,_⟩:=pick_ok hs (q + 1) (by omega) 2 (by omega)
   have hd1:=d1 (by omega)
   obtain ⟨m,rfl⟩:=Int.eq_ofNat_of_zero_le d0
   have hj11 : j1 - 1 = 0:=by omega
   obtain ⟨y,q3,j2,u2,⟨hy,_⟩,hy0,hy1,hyz,hj2,hu2,hrby,_⟩:=hoth (by omega) u1 m (q + 2) (by omega) (by omega) (by omega)
   rw [← hj11] at hy
   obtain ⟨n2,hn2,hwy⟩:=wid_of hw y (by omega)
   by_cases hwide : n + n2 ≤ 6
   ·obtain ⟨k,hkk,hkm⟩:=one_ok hs q3 (by omega) [4,5] (by decide) (by decide)
    obtain ⟨e',q4,hce',he0',he1',hez'⟩:=randomCondition_ok hs (n + n2) (by omega) (q3 + 1) (by omega)
    have hk6 : k ≠ 6:=by
     rcases List.mem_cons.1 hkm with rfl | hkm
     ·decide
     ·rw [List.mem_singleton.1 hkm]; decide
    have hb0 : j - j1 = 0:=by omega
    have hb1 : j1 - 1 - j2 = 0:=by omega
    have hjb : rb (.mk k 0 [e'] [] [x,y]) ≤ capB (j - j2) (u - u2):=by
     rw [rb_2 (q:=x) (r:=y) rfl,if_neg (show ¬ (Pl.mk k 0 [e'] [] [x,y]).k = 6 from hk6)]
     rw [hb0] at hrb
     rw [show 0 - j2 = 0 by omega] at hrby
     refine Nat.le_trans (cap_join hrb hrby (by omega)) (cap_mono (by omega) (by omega))
    have hjz : psz (.mk k 0 [e'] [] [x,y]) = esz e' + 0 + (1 + psz x + (1 + psz y)):=by rw [psz_two,eszL_1]; rfl
    exact ⟨_,_,_,_,⟨plan_join hpre hc5 hj0 hn4 hdd hy hwy hn2 hwide hkk hce',oplan_join hpre hc5 hj0 hn4 hdd hy hwy hn2 hwide hkk hce'⟩,by omega,by omega,by omega,by omega,by omega,hjb,fun h=>absurd h hk6⟩
   ·obtain ⟨e',q4,hce',he0',he1',hez'⟩:=randomCondition_ok hs n (by omega) q3 (by omega)
    have hfz' : psz (.mk 2 0 [e'] [] [x]) = esz e' + 0 + (1 + psz x):=by rw [psz_one,eszL_1]; rfl
    exact ⟨_,_,_,_,⟨plan_wide hpre hc5 hj0 hn4 hdd hy hwy hn2 hwide hce',oplan_wide hpre hc5 hj0 hn4 hdd hy hwy hn2 hwide hce'⟩,by omega,by omega,by omega,by omega,by omega,by rw [rb_1 rfl]; exact Nat.le_trans hrb (cap_mono (by omega) (by omega)),fun h=>absurd h (by decide : ¬ (2 : Int) = 6)⟩
  by_cases hD : c = 7 ∧ 0 < u1
  ·have hub : rb (.mk 6 0 [] [] [x,.mk 2 0 [e] [] [x]]) ≤ capB (j - j1) (u - (u1 - 1)):=by
    rw [rb_2 (q:=x) (r:=.mk 2 0 [e] [] [x]) rfl,if_pos (show (Pl.mk 6 0 [] [] [x,.mk 2 0 [e] [] [x]]).k = 6 from rfl),rb_1 (p:=.mk 2 0 [e] [] [x]) (q:=x) rfl,show u - (u1 - 1) = 1 by omega]
    rw [show u - u1 = 0 by omega] at hrb
    exact cap_uni hrb
   have huz : psz (.mk 6 0 [] [] [x,.mk 2 0 [e] [] [x]]) = 0 + 0 + (1 + psz x + (1 + psz (.mk 2 0 [e] [] [x]))):=by rw [psz_two]; rfl
   exact ⟨_,_,_,_,⟨plan_uni hpre hD.1 hD.2 (by omega) hce,oplan_uni hpre hD.1 hD.2 (by omega) hce⟩,by omega,by omega,by omega,hj1,by omega,hub,fun _=>rfl⟩
  by_cases hE : c = 8
  ·have hdz : psz (.mk 7 0 [] [] [x]) = 0 + 0 + (1 + psz x):=by rw [psz_one]; rfl
   exact ⟨_,_,_,_,⟨plan_dist hpre hE,oplan_dist hpre hE⟩,by omega,by omega,by omega,hj1,hu1,by rw [rb_1 rfl]; exact hrb,fun h=>absurd h (by decide : ¬ (7 : Int) = 6)⟩
  by_cases hF : c = 9
  ·by_cases hn1 : 1 < n
   ·obtain ⟨g,hg,_⟩:=pick_ok hs (q + 1) (by omega) n (by omega)
    have hgz : psz (.mk 8 0 [] [g] [x]) = 0 + 1 + (1 + psz x):=by rw [psz_one]; rfl
    exact ⟨_,_,_,_,⟨plan_grpc hpre hF hn1 hg,oplan_grpc hpre hF hn1 hg⟩,by omega,by omega,by omega,hj1,hu1,by rw [rb_1 rfl]; exact hrb,fun h=>absurd h (by decide : ¬ (8 : Int) = 6)⟩
   ·have hgz : psz (.mk 8 0 [] [] [x]) = 0 + 0 + (1 + psz x):=by rw [psz_one]; rfl
    exact ⟨_,_,_,_,⟨plan_grp hpre hF hn1,oplan_grp hpre hF hn1⟩,by omega,by omega,by omega,hj1,hu1,by rw [rb_1 rfl]; exact hrb,fun h=>absurd h (by decide : ¬ (8 : Int) = 6)⟩
  ·have hdf : ((c = 5 ∨ c = 6) ∧ ¬ (0 < j1 ∧ n ≤ 4)) ∨ (c = 7 ∧ u1 = 0):=by
    by_cases h5 : c = 5 ∨ c = 6
    ·exact Or.inl ⟨h5,fun h=>hC ⟨h5,h.1,h.2⟩⟩
    ·have h7 : c = 7:=by omega
     refine Or.inr ⟨h7,?_⟩
     by_cases h0 : 0 < u1
     ·exact (hD ⟨h7,h0⟩).elim
     ·omega
   exact ⟨_,_,_,_,⟨plan_def hpre hdf hce,oplan_def hpre hdf hce⟩,by omega,by omega,by omega,hj1,hu1,by rw [rb_1 rfl]; exact hrb,fun h=>absurd h (by decide : ¬ (2 : Int) = 6)⟩
theorem PlanAt.wide {bs : List Nat} {ws : List Int} {p j u d S K S' K' : Nat} (h : PlanAt bs ws p j u d S K) (hS : S ≤ S') (hK : K ≤ K') : PlanAt bs ws p j u d S' K':=by
 obtain ⟨x,q,j',u',h0,h1,h2,h3,h4,h5,h6,h7⟩:=h
 exact ⟨x,q,j',u',h0,h1,by omega,by omega,h4,h5,h6,h7⟩
theorem plan_any {bs : List Nat} (hs : Src bs) {ws : List Int} (hw : wsOk ws) (d p : Nat) (hd : d ≤ 4) (hp : p < 200000000) : PlanAt bs ws p 1 1 d 10000 20000:=by
 have z : ∀ d,d ≤ 4 → pzb 0 d ≤ 1500 ∧ prb 0 d ≤ 4010:=by decide
 have z2 : ∀ d,d ≤ 4 → pzb 1500 d ≤ 30000 ∧ prb 4010 d ≤ 30000:=by decide
 have z3 : pzb 0 1 ≤ 100 ∧ prb 0 1 ≤ 1010:=by decide
 have z4 : ∀ d,d ≤ 4 → pzb 100 d ≤ 10000 ∧ prb 1010 d ≤ 20000:=by decide
 have h0 : ∀ (u d p : Nat),u ≤ 1 → d ≤ 1 → p < 240000000 → PlanAt bs ws p 0 u d 100 1010:=fun u d p hu hd hp=>by
  have hd' : d = 0 ∨ d = 1:=by omega
  have z5:=z d (by omega)
  refine (plan_ind hs hw 0 0 0 250000000 (by omega) (by omega) (fun h=>by omega) d u p hu (by omega) (by omega) (by omega)).wide ?_ ?_
  ·rcases hd' with rfl | rfl
   ·decide
   ·exact z3.1
  ·rcases hd' with rfl | rfl
   ·decide
   ·exact z3.2
 have z6:=z4 d hd
 exact (plan_ind hs hw 100 1010 1 240000000 (by omega) (by omega) (fun _ u d p hu hd hp=>h0 u d p hu hd hp) d 1 p (by omega) (by omega) (by omega) (by omega)).wide z6.1 z6.2
end Go.Proofs.YtgpdmgaemhelgaaGreat
set_option maxHeartbeats 4000000
set_option maxRecDepth 100000
set_option linter.unusedVariables false
set_option linter.unusedSimpArgs false
namespace Go.Proofs.YtgpdmgaemhelgaaGreat
open Go.RowKit
def andE (a b : E) : E:=.mk 8 0 ⟨false,0⟩ [a,b]
def eOf (p : Pl) : E:=p.es.getD 0 zE
def kOf (p : Pl) : Pl:=p.ks.getD 0 zP
def lOf (p : Pl) : Pl:=p.ks.getD 1 zP
def colF (b : Int) (n : Nat) : List E:=(List.range n).map fun i : Nat=>.mk 1 (b + i) ⟨false,0⟩ []
theorem colF_len (b : Int) (n : Nat) : (colF b n).length = n:=by unfold colF; rw [List.length_map,List.length_range]
theorem colF_get {b : Int} {n i : Nat} (h : i < n) : (colF b n)[i]? = some (.mk 1 (b + i) ⟨false,0⟩ []):=by
 unfold colF
 rw [List.getElem?_map,List.getElem?_range h]
 rfl
def byR (a b : Int) : List E:=colF 0 a.toNat ++ colF 0 b.toNat
def byB (a b : Int) : List E:=colF b a.toNat ++ colF 0 b.toNat
def lowC (e : E) (a : Int) : Prop:=∀ c,c ∈ marked (occ e) 6 → (c : Int) < a
def highC (e : E) (a : Int) : Prop:=∀ c,c ∈ marked (occ e) 6 → a ≤ (c : Int)
noncomputable instance lowDec (e : E) (a : Int) : Decidable (lowC e a):=Classical.propDecidable _
noncomputable instance highDec (e : E) (a : Int) : Decidable (highC e a):=Classical.propDecidable _
def nulC (a b : Int) : List Int:=(List.range b.toNat).map fun i : Nat=>a + i
def rejB (e : E) (a b : Int) : Bool:=intBit .and .i64 (oc e (stL (nulC a b) (a + b).toNat)) 2 == 0
noncomputable def ru1 (p : Pl) : Option Pl:=if p.k = 2 ∧ (kOf p).k = 2 then some (fiP (andE (eOf (kOf p)) (eOf p)) (kOf (kOf p))) else none
noncomputable def ru2 (p : Pl) : Option Pl:=if p.k = 2 ∧ (eOf p).k = 8 then some (fiP ((eOf p).ks.getD 1 zE) (fiP ((eOf p).ks.getD 0 zE) (kOf p))) else none
noncomputable def ru3 (ws : List Int) (p : Pl) : Option Pl:=if p.k = 2 ∧ ((kOf p).k = 4 ∨ (kOf p).k = 5) ∧ lowC (eOf p) (wdV ws (kOf (kOf p)) 8) then some (.mk (kOf p).k 0 (kOf p).es [] [fiP (eOf p) (kOf (kOf p)),lOf (kOf p)]) else none
noncomputable def ru4 (ws : List Int) (p : Pl) : Option Pl:=if p.k = 2 ∧ (kOf p).k = 4 ∧ highC (eOf p) (wdV ws (kOf (kOf p)) 8) then some (.mk 4 0 (kOf p).es [] [kOf (kOf p),fiP (subE (byR (wdV ws (kOf (kOf p)) 8) (wdV ws (lOf (kOf p)) 8)) (eOf p)) (lOf (kOf p))]) else none
noncomputable def ru5 (p : Pl) : Option Pl:=if p.k = 2 ∧ (kOf p).k = 4 then some (.mk 4 0 [andE (eOf (kOf p)) (eOf p)] [] (kOf p).ks) else none
noncomputable def ru6 (ws : List Int) (p : Pl) : Option Pl:=if p.k = 4 then some (prP (byB (wdV ws (kOf p) 8) (wdV ws (lOf p) 8)) (.mk 4 0 [subE (byB (wdV ws (kOf p) 8) (wdV ws (lOf p) 8)) (eOf p)] [] [lOf p,kOf p])) else none
noncomputable def ru7 (ws : List Int) (p : Pl) : Option Pl:=if p.k = 2 ∧ (kOf p).k = 5 ∧ rejB (eOf p) (wdV ws (kOf (kOf p)) 8) (wdV ws (lOf (kOf p)) 8) = true then some (fiP (eOf p) (.mk 4 0 (kOf p).es [] (kOf p).ks)) else none
noncomputable def ru8 (p : Pl) : Option Pl:=if p.k = 2 ∧ (kOf p).k = 6 then some (.mk 6 0 [] [] [fiP (eOf p) (kOf (kOf p)),fiP (eOf p) (lOf (kOf p))]) else none
noncomputable def ru9 (p : Pl) : Option Pl:=if p.k = 7 ∧ ((kOf p).k = 7 ∨ (kOf p).k = 8) then some (kOf p) else none
noncomputable def ru10 (p : Pl) : Option Pl:=if p.k = 2 ∧ (kOf p).k = 3 then some (.mk 3 0 (kOf p).es [] [fiP (subE (kOf p).es (eOf p)) (kOf (kOf p))]) else none
noncomputable def ru11 (p : Pl) : Option Pl:=if p.k = 3 ∧ (kOf p).k = 3 then some (.mk 3 0 (p.es.map (subE (kOf p).es)) [] (kOf p).ks) else none
noncomputable def ruP (ws : List Int) (r : Int) (p : Pl) : Option Pl:=
 if r = 1 then ru1 p else if r = 2 then ru2 p else if r = 3 then ru3 ws p else if r = 4 then ru4 ws p else if r = 5 then ru5 p else if r = 6 then ru6 ws p else if r = 7 then ru7 ws p else if r = 8 then ru8 p else if r = 9 then ru9 p else if r = 10 then ru10 p else if r = 11 then ru11 p else none
theorem eOf_mk (k t : Int) (e : E) (es : List E) (cs : List Int) (ks : List Pl) : eOf (.mk k t (e :: es) cs ks) = e:=rfl
theorem kOf_mk (k t : Int) (es : List E) (cs : List Int) (q : Pl) (ks : List Pl) : kOf (.mk k t es cs (q :: ks)) = q:=rfl
theorem lOf_mk (k t : Int) (es : List E) (cs : List Int) (q r : Pl) (ks : List Pl) : lOf (.mk k t es cs (q :: r :: ks)) = r:=rfl
/-! A plan of a kind. -/
theorem wf_2 {ws : List Int} {p : Pl} {d : Nat} {w : Int} (h : Wf ws p d w) (hk : p.k = 2) : ∃ e q f,p = .mk 2 0 [e] [] [q] ∧ d = f + 1 ∧ Wf ws q f w ∧ eOk e w 8:=by
 cases h with
 | filter hq he=>exact ⟨_,_,_,rfl,rfl,hq,he⟩
 | join hk4 _ _ _ _=>simp only [Pl.k] at hk; omega
 | _=>simp [Pl.k] at hk
theorem wf_3 {ws : List Int} {p : Pl} {d : Nat} {w : Int} (h : Wf ws p d w) (hk : p.k = 3) : ∃ es q f u,p = .mk 3 0 es [] [q] ∧ d = f + 1 ∧ w = (es.length : Int) ∧ Wf ws q f u ∧ (1 ≤ es.length ∧ es.length ≤ 6) ∧ ∀ e,e ∈ es → eOk e u 8:=by
 cases h with
 | project hq hl he=>exact ⟨_,_,_,_,rfl,rfl,rfl,hq,hl,he⟩
 | join hk4 _ _ _ _=>simp only [Pl.k] at hk; omega
 | _=>simp [Pl.k] at hk
theorem wf_45 {ws : List Int} {p : Pl} {d : Nat} {w : Int} (h : Wf ws p d w) (hk : p.k = 4 ∨ p.k = 5) : ∃ e q r f a b,p = .mk p.k 0 [e] [] [q,r] ∧ d = f + 1 ∧ w = a + b ∧ Wf ws q f a ∧ Wf ws r f b ∧ a + b ≤ 6 ∧ eOk e (a + b) 8:=by
 cases h with
 | join hk4 hq hr hab he=>exact ⟨_,_,_,_,_,_,rfl,rfl,rfl,hq,hr,hab,he⟩
 | _=>simp only [Pl.k] at hk; omega
theorem wf_6 {ws : List Int} {p : Pl} {d : Nat} {w : Int} (h : Wf ws p d w) (hk : p.k = 6) : ∃ q r f,p = .mk 6 0 [] [] [q,r] ∧ d = f + 1 ∧ Wf ws q f w ∧ Wf ws r f w:=by
 cases h with
 | union hq hr=>exact ⟨_,_,_,rfl,rfl,hq,hr⟩
 | join hk4 _ _ _ _=>simp only [Pl.k] at hk; omega
 | _=>simp [Pl.k] at hk
theorem wf_7 {ws : List Int} {p : Pl} {d : Nat} {w : Int} (h : Wf ws p d w) (hk : p.k = 7) : ∃ q f,p = .mk 7 0 [] [] [q] ∧ d = f + 1 ∧ Wf ws q f w:=by
 cases h with
 | distinct hq=>exact ⟨_,_,rfl,rfl,hq⟩
 | join hk4 _ _ _ _=>simp only [Pl.k] at hk; omega
 | _=>simp [Pl.k] at hk
/-! The width is kept. -/
theorem kp1 {ws : List Int} (hw : wsOk ws) {p q : Pl} {d d' : Nat} {w w' : Int} (h : Wf ws p d w) (hq : Wf ws q d' w') (hr : ru1 p = some q) : w' = w:=by
 unfold ru1 at hr
 split at hr
 ·rename_i hk
  obtain ⟨e,k,f,rfl,rfl,h1,_⟩:=wf_2 h hk.1
  obtain ⟨e',k',f',rfl,rfl,h2,_⟩:=wf_2 h1 hk.2
  cases hr
  cases hq with
  | filter h3 _=>exact wf_same hw h3 h2
 ·cases hr
theorem kp2 {ws : List Int} (hw : wsOk ws) {p q : Pl} {d d' : Nat} {w w' : Int} (h : Wf ws p d w) (hq : Wf ws q d' w') (hr : ru2 p = some q) : w' = w:=by
 unfold ru2 at hr
 split at hr
 ·rename_i hk
  obtain ⟨e,k,f,rfl,rfl,h1,_⟩:=wf_2 h hk.1
  cases hr
  cases hq with
  | filter h3 _=>
   cases h3 with
   | filter h4 _=>exact wf_same hw h4 h1
 ·cases hr
theorem kp3 {ws : List Int} (hw : wsOk ws) {p q : Pl} {d d' : Nat} {w w' : Int} (h : Wf ws p d w) (hq : Wf ws q d' w') (hr : ru3 ws p = some q) : w' = w:=by
 unfold ru3 at hr
 split at hr
 ·rename_i hk
  obtain ⟨e,k,f,rfl,rfl,h1,_⟩:=wf_2 h hk.1
  have hk2:=hk.2.1
  rw [kOf_mk] at hk2
  obtain ⟨e',x,y,g,a,b,hp,rfl,rfl,h2,h3,_,_⟩:=wf_45 h1 hk2
  generalize k.k = kk at *
  subst hp
  cases hr
  simp only [eOf_mk,kOf_mk,lOf_mk,Pl.k,Pl.es] at hq
  cases hq with
  | join _ h4 h5 _ _=>
   cases h4 with
   | filter h6 _=>
    have e1:=wf_same hw h6 h2
    have e2:=wf_same hw h5 h3
    rw [e1,e2]
 ·cases hr
theorem kp4 {ws : List Int} (hw : wsOk ws) {p q : Pl} {d d' : Nat} {w w' : Int} (h : Wf ws p d w) (hq : Wf ws q d' w') (hr : ru4 ws p = some q) : w' = w:=by
 unfold ru4 at hr
 split at hr
 ·rename_i hk
  obtain ⟨e,k,f,rfl,rfl,h1,_⟩:=wf_2 h hk.1
  have hk2:=hk.2.1
  rw [kOf_mk] at hk2
  obtain ⟨e',x,y,g,a,b,hp,rfl,rfl,h2,h3,_,_⟩:=wf_45 h1 (.inl hk2)
  generalize k.k = kk at *
  subst hp
  cases hr
  simp only [eOf_mk,kOf_mk,lOf_mk,Pl.k,Pl.es] at hq
  cases hq with
  | join _ h4 h5 _ _=>
   cases h5 with
   | filter h6 _=>
    have e1:=wf_same hw h4 h2
    have e2:=wf_same hw h6 h3
    rw [e1,e2]
 ·cases hr
theorem kp5 {ws : List Int} (hw : wsOk ws) {p q : Pl} {d d' : Nat} {w w' : Int} (h : Wf ws p d w) (hq : Wf ws q d' w') (hr : ru5 p = some q) : w' = w:=by
 unfold ru5 at hr
 split at hr
 ·rename_i hk
  obtain ⟨e,k,f,rfl,rfl,h1,_⟩:=wf_2 h hk.1
  have hk2:=hk.2
  rw [kOf_mk] at hk2
  obtain ⟨e',x,y,g,a,b,hp,rfl,rfl,h2,h3,_,_⟩:=wf_45 h1 (.inl hk2)
  generalize k.k = kk at *
  subst hp
  cases hr
  simp only [eOf_mk,kOf_mk,lOf_mk,Pl.k,Pl.es,Pl.ks] at hq
  cases hq with
  | join _ h4 h5 _ _=>
   have e1:=wf_same hw h4 h2
   have e2:=wf_same hw h5 h3
   rw [e1,e2]
 ·cases hr
theorem kp6 {ws : List Int} (hw : wsOk ws) {p q : Pl} {d d' : Nat} {w w' : Int} (h : Wf ws p d w) (hd : d ≤ 8) (hq : Wf ws q d' w') (hr : ru6 ws p = some q) : w' = w:=by
 unfold ru6 at hr
 split at hr
 ·rename_i hk
  obtain ⟨e',x,y,g,a,b,hp,rfl,rfl,h2,h3,_,_⟩:=wf_45 h (.inl hk)
  generalize p.k = kk at *
  subst hp
  obtain ⟨w1,w2⟩:=wf_to hw (wf_mono hw h2 (show g ≤ 8 by omega))
  obtain ⟨w3,w4⟩:=wf_to hw (wf_mono hw h3 (show g ≤ 8 by omega))
  cases hr
  simp only [eOf_mk,kOf_mk,lOf_mk,Pl.k,Pl.es,Pl.ks,w1,w3] at hq
  obtain ⟨es,q',f',u',hp2,_,hw',_,_,_⟩:=wf_3 hq rfl
  simp only [prP,Pl.mk.injEq,true_and] at hp2
  rw [hw',← hp2.1]
  unfold byB
  rw [List.length_append,colF_len,colF_len]
  omega
 ·cases hr
theorem kp7 {ws : List Int} (hw : wsOk ws) {p q : Pl} {d d' : Nat} {w w' : Int} (h : Wf ws p d w) (hq : Wf ws q d' w') (hr : ru7 ws p = some q) : w' = w:=by
 unfold ru7 at hr
 split at hr
 ·rename_i hk
  obtain ⟨e,k,f,rfl,rfl,h1,_⟩:=wf_2 h hk.1
  have hk2:=hk.2.1
  rw [kOf_mk] at hk2
  obtain ⟨e',x,y,g,a,b,hp,rfl,rfl,h2,h3,_,_⟩:=wf_45 h1 (.inr hk2)
  generalize k.k = kk at *
  subst hp
  cases hr
  simp only [eOf_mk,kOf_mk,lOf_mk,Pl.k,Pl.es,Pl.ks] at hq
  cases hq with
  | filter h6 _=>
   cases h6 with
   | join _ h4 h5 _ _=>
    have e1:=wf_same hw h4 h2
    have e2:=wf_same hw h5 h3
    rw [e1,e2]
 ·cases hr
theorem kp8 {ws : List Int} (hw : wsOk ws) {p q : Pl} {d d' : Nat} {w w' : Int} (h : Wf ws p d w) (hq : Wf ws q d' w') (hr : ru8 p = some q) : w' = w:=by
 unfold ru8 at hr
 split at hr
 ·rename_i hk
  obtain ⟨e,k,f,rfl,rfl,h1,_⟩:=wf_2 h hk.1
  have hk2:=hk.2
  rw [kOf_mk] at hk2
  obtain ⟨x,y,g,rfl,rfl,h2,h3⟩:=wf_6 h1 hk2
  cases hr
  simp only [eOf_mk,kOf_mk,lOf_mk,Pl.k,Pl.es,Pl.ks] at hq
  cases hq with
  | union h4 _=>
   cases h4 with
   | filter h6 _=>exact wf_same hw h6 h2
 ·cases hr
theorem kp9 {ws : List Int} (hw : wsOk ws) {p q : Pl} {d d' : Nat} {w w' : Int} (h : Wf ws p d w) (hq : Wf ws q d' w') (hr : ru9 p = some q) : w' = w:=by
 unfold ru9 at hr
 split at hr
 ·rename_i hk
  obtain ⟨k,f,rfl,rfl,h1⟩:=wf_7 h hk.1
  cases hr
  exact wf_same hw hq h1
 ·cases hr
theorem kp10 {ws : List Int} (hw : wsOk ws) {p q : Pl} {d d' : Nat} {w w' : Int} (h : Wf ws p d w) (hq : Wf ws q d' w') (hr : ru10 p = some q) : w' = w:=by
 unfold ru10 at hr
 split at hr
 ·rename_i hk
  obtain ⟨e,k,f,rfl,rfl,h1,_⟩:=wf_2 h hk.1
  obtain ⟨es,x,g,u,rfl,rfl,rfl,h2,_,_⟩:=wf_3 h1 hk.2
  cases hr
  simp only [eOf_mk,kOf_mk,lOf_mk,Pl.k,Pl.es,Pl.ks] at hq
  cases hq with
  | project _ _ _=>rfl
 ·cases hr
theorem kp11 {ws : List Int} (hw : wsOk ws) {p q : Pl} {d d' : Nat} {w w' : Int} (h : Wf ws p d w) (hq : Wf ws q d' w') (hr : ru11 p = some q) : w' = w:=by
 unfold ru11 at hr
 split at hr
 ·rename_i hk
  obtain ⟨es,k,f,u,rfl,rfl,rfl,h1,_,_⟩:=wf_3 h hk.1
  obtain ⟨fs,x,g,v,rfl,rfl,rfl,h2,_,_⟩:=wf_3 h1 hk.2
  cases hr
  simp only [eOf_mk,kOf_mk,lOf_mk,Pl.k,Pl.es,Pl.ks] at hq
  obtain ⟨gs,q',f',u',hp2,_,hw',_,_,_⟩:=wf_3 hq rfl
  simp only [prP,Pl.mk.injEq,true_and] at hp2
  rw [hw',← hp2.1,List.length_map]
 ·cases hr
theorem keeps {ws : List Int} (hw : wsOk ws) {p q : Pl} {r : Int} {d d' : Nat} {w w' : Int} (h : Wf ws p d w) (hd : d ≤ 8) (hq : Wf ws q d' w') (hr : ruP ws r p = some q) : w' = w:=by
 unfold ruP at hr
 split at hr; · exact kp1 hw h hq hr
 split at hr; · exact kp2 hw h hq hr
 split at hr; · exact kp3 hw h hq hr
 split at hr; · exact kp4 hw h hq hr
 split at hr; · exact kp5 hw h hq hr
 split at hr; · exact kp6 hw h hd hq hr
 split at hr; · exact kp7 hw h hq hr
 split at hr; · exact kp8 hw h hq hr
 split at hr; · exact kp9 hw h hq hr
 split at hr; · exact kp10 hw h hq hr
 split at hr; · exact kp11 hw h hq hr
 cases hr
end Go.Proofs.YtgpdmgaemhelgaaGreat
