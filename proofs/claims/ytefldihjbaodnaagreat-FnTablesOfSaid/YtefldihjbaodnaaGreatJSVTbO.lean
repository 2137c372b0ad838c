/-
  EvalPlan of both packages as a function. No condition.
-/
import Derived.Test.YtefldihjbaodnaaGreatKSDca
import Derived.Test.YtefldihjbaodnaaGreatKSDcg
import Derived.Test.YtefldihjbaodnaaGreatKSVPiO
import Derived.Test.YtefldihjbaodnaaGreatJSVWidF
import Derived.Test.YtefldihjbaodnaaGreatJSVPiP
import Derived.Test.YtefldihjbaodnaaGreatJSVGo
import Derived.Test.YtefldihjbaodnaaGreatJSVLaw
import Derived.Test.YtefldihjbaodnaaGreatJSVTru
import Derived.Test.YtefldihjbaodnaaGreatJSVWidC
import Derived.Test.YtefldihjbaodnaaGreatJSVEvS
import Derived.Test.YtefldihjbaodnaaGreatJSVPiJ
import Derived.Test.YtefldihjbaodnaaGreatJSVPiA
import Derived.Test.YtefldihjbaodnaaGreatJSVPiD
set_option maxHeartbeats 4000000
set_option maxRecDepth 100000
set_option linter.unusedVariables false
set_option linter.unusedSimpArgs false
namespace Go.Proofs.YtefldihjbaodnaaGreat
open Go.RowKit
theorem wd_wt {ws : List Nat} : ∀ (p : Pl) (d : Nat),wdV (natI ws) p d ≠ 0 → ∃ n : Nat,wdV (natI ws) p d = (n : Int) ∧ Wt ws p n:=by
 refine Pl.indA (fun p ih d h=>?_)
 have hf:=wd_fields h
 by_cases hk : p.k = 1
 ·obtain ⟨hr,h0,h1⟩:=wd_scan h hk
  have hks : p.ks = []:=List.length_eq_zero_iff.1 (by unfold fields at hf; omega)
  obtain ⟨j,hj⟩:=Int.eq_ofNat_of_zero_le h0
  have hjl : j < (natI ws).length:=by omega
  have hx:=List.getElem?_eq_getElem hjl
  obtain ⟨m,hm,hmx⟩:=natI_at hx
  refine ⟨m,?_,.scan hk hj hm hks⟩
  rw [hr]
  unfold scanV
  rw [if_pos ⟨h0,h1⟩,hj,show ((j : Int)).toNat = j from rfl,List.getD_eq_getElem?_getD,hx,Option.getD_some,hmx]
 ·obtain ⟨⟨hfi,hfit⟩,hr,hkid⟩:=wd_fit h hk
  obtain ⟨ms,hl,hp⟩:=list_of (P:=fun (x : Pl) (n : Nat)=>wdV (natI ws) x (d - 1) = (n : Int) ∧ Wt ws x n) p.ks (fun x hx=>ih x hx (d - 1) (hkid x hx))
  have hms : p.ks.map (fun x=>wdV (natI ws) x (d - 1)) = natI ms:=by
   apply List.ext_getElem?
   intro i
   show (p.ks.map (fun x=>wdV (natI ws) x (d - 1)))[i]? = (ms.map (fun n : Nat=>(n : Int)))[i]?
   rw [List.getElem?_map,List.getElem?_map]
   cases hx : p.ks[i]? with
   | none=>
    have : ms[i]? = none:=List.getElem?_eq_none (by have:=List.getElem?_eq_none_iff.1 hx; omega)
    rw [this]
    rfl
   | some x=>
    obtain ⟨n,hn⟩ : ∃ n,ms[i]? = some n:=⟨_,List.getElem?_eq_getElem (by have:=(List.getElem?_eq_some_iff.1 hx).1; omega)⟩
    rw [hn,Option.map_some,Option.map_some,(hp i x n hx hn).1]
  rw [hms] at hfit hr
  obtain ⟨m,hm,hw⟩:=wt_of hl hk (fun i x n hx hn=>(hp i x n hx hn).2) hfi hfit
  exact ⟨m,by rw [hr,hm],hw⟩
def fitB (db : List Ta) (p : Pl) : Prop:=dbOk db ∧ PV (natI (dbWs db)) p ≠ 0
noncomputable instance fitDec (db : List Ta) (p : Pl) : Decidable (fitB db p):=Classical.propDecidable _
noncomputable def EO (db : List Ta) (p : Pl) : Bool:=decide (fitB db p)
noncomputable def EP (db : List Ta) (p : Pl) : Ta:=if fitB db p then evP db p else ⟨0,[]⟩
theorem EP_t {db : List Ta} {p : Pl} (h : fitB db p) : EP db p = evP db p:=if_pos h
theorem EP_f {db : List Ta} {p : Pl} (h : ¬ fitB db p) : EP db p = ⟨0,[]⟩:=if_neg h
theorem EO_t {db : List Ta} {p : Pl} (h : fitB db p) : EO db p = true:=decide_eq_true h
theorem EO_f {db : List Ta} {p : Pl} (h : ¬ fitB db p) : EO db p = false:=decide_eq_false h
theorem fit_wt {db : List Ta} {p : Pl} (h : fitB db p) : ∃ n : Nat,PV (natI (dbWs db)) p = (n : Int) ∧ Wt (dbWs db) p n ∧ DbW (dbWs db) db ∧ TabW n (evP db p):=by
 have hw:=PV_ok h.2
 have h2:=h.2
 rw [PV_t hw] at h2 ⊢
 obtain ⟨n,hn,hwt⟩:=wd_wt p 8 h2
 have hd:=dbW_of h.1 hw
 exact ⟨n,hn,hwt,hd,(evalPlan_ok hd hwt).1⟩
theorem EP_small (db : List Ta) (p : Pl) : smallT (EP db p):=by
 by_cases h : fitB db p
 ·obtain ⟨n,_,hwt,hd,hT⟩:=fit_wt h
  rw [EP_t h]
  have hn:=hwt.pos hd.wid
  exact ⟨by have:=hT.few; omega,fun r hr=>by have:=(hT.row r hr).1; omega⟩
 ·rw [EP_f h]
  exact ⟨by decide,fun r hr=>by cases hr⟩
theorem EvalPlan_fn (p : Pl) (hs : psz p ≤ 1048576) (db : List Ta) (hl : db.length ≤ 1000) (hsz : ∀ t,t ∈ db → rsz t.rows ≤ 1048576) :
  Does Tryz.prog 7 [] [pD p,tasD db] (.tup [taD (EP db p),Bo (EO db p)]) [] ∧ Does Tryz.prog 8 [] [pD p,tasD db] (.tup [taD (EP db p),Bo (EO db p)]) []:=by
 have hwl : (natI (dbWs db)).length ≤ 1048576:=by unfold natI dbWs; rw [List.length_map,List.length_map]; omega
 obtain ⟨_,g1,g2⟩:=PlanWidth_fn p hs (natI (dbWs db)) hwl
 by_cases hf : fitB db p
 ·obtain ⟨n,hn,hwt,hd,hT⟩:=fit_wt hf
  rw [EP_t hf,EO_t hf]
  rw [hn] at g1 g2
  have hn0 : n ≠ 0:=fun e=>hf.2 (by rw [hn,e]; rfl)
  refine ⟨EvalPlan_impl_t hs hl hsz ⟨hf.1,PV_ok hf.2,hn0,hwt⟩ g2,?_⟩
  have h1:=widthsOf_t hl hf.1
  have h4:=(evalPlan_ok hd hwt).2
  have hz2 : ((n : Int) == 0) = false:=beq_eq_false_iff_ne.2 (by omega)
  refine Bg c_Z140 mixed (go1 trivial ?_)
  refine Uc trivial (h1) (go1 trivial ?_)
  refine Uc @hz2 (g1) (go1 @hz2 ?_)
  exact Uc trivial (h4) (go0 trivial)
 ·rw [EP_f hf,EO_f hf]
  by_cases hok : dbOk db
  ·have h0 : PV (natI (dbWs db)) p = 0:=Classical.byContradiction fun hne=>hf ⟨hok,hne⟩
   rw [h0] at g1 g2
   refine ⟨EvalPlan_impl_f (tableWidths_t hl hok hsz) g2,?_⟩
   have h1:=widthsOf_t hl hok
   refine Bg c_Z140 mixed (go1 trivial ?_)
   refine Uc trivial (h1) (go1 trivial ?_)
   refine Uc trivial (g1) (go1 trivial ?_)
   exact sub_zero
  ·obtain ⟨_,k1,k2⟩:=PlanWidth_fn p hs (natI []) (by decide)
   have h0 : PV (natI []) p = 0:=if_neg (fun h=>by have:=h.1.1; simp [natI] at this)
   rw [h0] at k1 k2
   refine ⟨EvalPlan_impl_f (tableWidths_f hl hsz hok) k2,?_⟩
   have h1:=widthsOf_f hl hsz hok
   refine Bg c_Z140 mixed (go1 trivial ?_)
   refine Uc trivial (h1) (go1 trivial ?_)
   refine Uc trivial (k1) (go1 trivial ?_)
   exact sub_zero
end Go.Proofs.YtefldihjbaodnaaGreat
set_option maxHeartbeats 4000000
set_option maxRecDepth 100000
set_option linter.unusedVariables false
set_option linter.unusedSimpArgs false
namespace Go.Proofs.YtefldihjbaodnaaGreat
open Go.RowKit
theorem eqIntsL_ok (l : List Int) (hl : l.length < 1000000) : Does Tryz.prog 13 [] [intsD l,intsD l] (Bo true) []:=by
 refine Bg c_Z117 mixed (go1 trivial ?_)
 refine dw_for (c:=0) (l:=fun i=>[(0,intsD l),(1,intsD l),(5,I i)]) l.length (fun _=>True) 0 trivial (Wk.list [] rfl rfl ?_) (fun i hi _=>?_) (Nat.zero_le _)
 ·repeat' (first|(conv in hold _=>simp (disch:=omega) only [go_sem])|exact trivial|exact Sub.refl _|omega)
  exact rfl
 ·rcases at_or_end hi with ⟨x,hx,hlt⟩ | rfl
  ·refine go1 @hx ?_
   refine ⟨hlt,trivial,Wk.list [] rfl rfl ?_⟩
   repeat' (first|(conv in hold _=>simp (disch:=omega) only [go_sem])|exact trivial|exact Sub.refl _|omega)
  ·exact go0 trivial
theorem isInL_ok (l : List Int) (x : Int) (hl : l.length < 1000000) : Does Tryz.prog 12 [] [intsD l,I x] (Bo (decide (x ∈ l))) []:=by
 refine Bg c_Z179 mixed (go1 trivial ?_)
 refine dw_for (c:=0) (l:=fun i=>[(0,intsD l),(1,I x),(5,I i)]) l.length (fun i=>∀ (j : Nat) (y : Int),j < i → l[j]? = some y → y ≠ x) 0 (fun j y hj=>by omega) (Wk.list [] rfl rfl ?_) (fun i hi hJ=>?_) (Nat.zero_le _)
 ·repeat' (first|(conv in hold _=>simp (disch:=omega) only [go_sem])|exact trivial|exact Sub.refl _|omega)
  exact rfl
 ·rcases at_or_end hi with ⟨y,hy,hlt⟩ | rfl
  ·by_cases hyx : y = x
   ·have e : (y == x) = true:=beq_iff_eq.2 hyx
    refine go1 (cj2 @hy @e) ?_
    exact sub_t (by rw [← hyx]; exact List.mem_of_getElem? hy)
   ·have e : (y == x) = false:=beq_eq_false_iff_ne.2 hyx
    refine go1 (cj2 @hy @e) ?_
    refine ⟨hlt,fun j z hj hz=>?_,Wk.list [] rfl rfl ?_⟩
    ·by_cases hji : j = i
     ·subst hji
      rw [hy] at hz
      cases hz
      exact hyx
     ·exact hJ j z (by omega) hz
    ·repeat' (first|(conv in hold _=>simp (disch:=omega) only [go_sem])|exact trivial|exact Sub.refl _|omega)
  ·refine go1 trivial ?_
   exact sub_f (fun hm=>by
    obtain ⟨j,hj⟩:=List.mem_iff_getElem?.1 hm
    exact hJ j x (List.getElem?_eq_some_iff.1 hj).1 hj rfl)
end Go.Proofs.YtefldihjbaodnaaGreat
set_option maxHeartbeats 4000000
set_option maxRecDepth 100000
set_option linter.unusedVariables false
set_option linter.unusedSimpArgs false
namespace Go.Proofs.YtefldihjbaodnaaGreat
open Go.RowKit
def scnN (ks : List Pl) (j : Nat) : Bool:=ks.any (fun x=>scn (j : Int) x)
theorem scnN_next {ks : List Pl} {i : Nat} {x : Pl} (h : ks[i]? = some x) (u : Nat → Bool) : (fun j=>(u j || scnN (ks.take i) j) || scn (j : Int) x) = fun j=>u j || scnN (ks.take (i + 1)) j:=funext fun j=>by
 unfold scnN
 rw [take_next h,List.any_append,List.any_cons,List.any_nil,Bool.or_false,Bool.or_assoc]
theorem addTables_ok {n : Nat} (hn : n ≤ 6) : ∀ p : Pl,Fine n p → psz p ≤ 1048576 → ∀ u : Nat → Bool,Does Tryz.prog 38 [] [.sl 1 (colsL u 6),pD p] (.sl 1 (colsL (fun j=>u j || scn (j : Int) p) 6)) []:=by
 refine Pl.indA (fun p ih hp hs u=>?_)
 rw [psz_eq] at hs
 have hlen:=pszL_len p.ks
 have hf:=hp.fields
 by_cases hk : p.k = 1
 ·have hsc:=hp.scan hk
  have hks : p.ks = []:=List.length_eq_zero_iff.1 (by unfold fields at hf; omega)
  obtain ⟨c,hc⟩:=Int.eq_ofNat_of_zero_le hsc.1
  have h1:=addNumber_ok u c (by omega)
  have he : (fun j : Nat=>u j || scn (j : Int) p) = fun i : Nat=>u i || i == c:=funext fun j=>by
   rw [scn_eq,if_pos hk,hc]
   congr 1
   by_cases hj : j = c
   ·subst hj; rw [beq_self_eq_true,beq_self_eq_true]
   ·rw [beq_eq_false_iff_ne.2 hj,beq_eq_false_iff_ne.2 (fun h=>hj (by omega))]
  rw [he]
  rw [← hc] at h1
  refine Bg c_Z121 mixed (go1 (cj2 @hk @hks) ?_)
  refine Uc @hk (h1) (go1 @hk ?_)
  refine dw_for (c:=1) (l:=fun i=>[(0,.sl 1 (colsL (fun i : Nat=>u i || i == c) 6)),(3,.ref 1000000 0),(5,I i),(1000000,.obj [I p.k,I p.t,.sl 5 (p.es.map eD),intsD p.cs,.sl 5 []])]) 0 (fun _=>True) 0 trivial (Wk.list [2000003] rfl rfl ?_) (fun i hi _=>?_) (Nat.zero_le _)
  ·repeat' (first|(conv in hold _=>simp (disch:=omega) only [go_sem,hk,hks])|exact trivial|exact Sub.refl _|omega)
   (repeat' apply And.intro) <;> first | rfl | (rw [hk])
  ·obtain rfl : i = 0:=by omega
   exact go0 trivial
 ·have hkid:=fun (x : Pl) (hx : x ∈ p.ks)=>ih x hx (hp.kid hx) (by have:=pszL_mem hx; omega)
  have he : (fun j : Nat=>u j || scn (j : Int) p) = fun j=>u j || scnN (p.ks.take p.ks.length) j:=funext fun j=>by
   rw [scn_eq,if_neg hk,List.take_length]
   rfl
  have h0 : colsL (fun j=>u j || scnN (p.ks.take 0) j) 6 = colsL u 6:=congrArg (fun v=>colsL v 6) (funext fun j=>by rw [List.take_zero]; exact Bool.or_false _)
  rw [he]
  refine Bg c_Z121 mixed (go1 trivial ?_)
  refine dw_for (c:=1) (l:=fun i=>[(0,.sl 1 (colsL (fun j=>u j || scnN (p.ks.take i) j) 6)),(3,.ref 1000000 0),(5,I i),(1000000,.obj [I p.k,I p.t,.sl 5 (p.es.map eD),intsD p.cs,.sl 5 (p.ks.map pD)])]) p.ks.length (fun _=>True) 0 trivial (Wk.list [2000003] rfl rfl ?_) (fun i hi _=>?_) (Nat.zero_le _)
  ·rw [h0]
   repeat' (first|(conv in hold _=>simp (disch:=omega) only [go_sem])|exact trivial|exact Sub.refl _|omega)
   (repeat' apply And.intro) <;> rfl
  ·rcases at_or_end hi with ⟨x,hx,hlt⟩ | rfl
   ·have hix:=hkid x (List.mem_of_getElem? hx) (fun j=>u j || scnN (p.ks.take i) j)
    rw [scnN_next hx] at hix
    refine go1 @hx ?_
    refine Uc @hx (hix) (go1 @hx ?_)
    refine ⟨hlt,trivial,Wk.list [1000000] rfl rfl ?_⟩
    repeat' (first|(conv in hold _=>simp (disch:=omega) only [go_sem])|exact trivial|exact Sub.refl _|omega)
   ·exact go0 trivial
theorem tbs_cols {p : Pl} {n : Nat} (hn : n ≤ 6) (hp : Fine n p) : (tbs p n).map I = colsL (fun j=>scn (j : Int) p) 6:=by
 have hz : ∀ q : Pl,Fine n q → ∀ t : Nat,n ≤ t → scn (t : Int) q = false:=by
  refine Pl.indA (fun q ih hq t ht=>?_)
  rw [scn_eq]
  by_cases hk : q.k = 1
  ·have:=hq.scan hk
   rw [if_pos hk]
   exact beq_eq_false_iff_ne.2 (by omega)
  ·rw [if_neg hk,← Bool.not_eq_true,List.any_eq_true]
   rintro ⟨x,hx,h⟩
   rw [ih x hx (hq.kid hx) t ht] at h
   cases h
 have hr : ∀ k,(List.range (n + k)).filter (fun t : Nat=>scn (t : Int) p) = (List.range n).filter (fun t : Nat=>scn (t : Int) p):=fun k=>by
  induction k with
  | zero=>rfl
  | succ k ih=>rw [show n + (k + 1) = (n + k) + 1 by omega,List.range_succ,List.filter_append,ih,List.filter_cons,if_neg (by rw [hz p hp (n + k) (by omega)]; decide)]; exact List.append_nil _
 have h6:=hr (6 - n)
 rw [show n + (6 - n) = 6 by omega] at h6
 unfold tbs colsL marked
 rw [h6,List.map_map]
 rfl
theorem TablesOf_spec {ws : List Int} (hl : ws.length ≤ 6) {p : Pl} (hs : psz p ≤ 1048576) (hw : PV ws p ≠ 0) (hp : Fine ws.length p) : Does Tryz.prog 14 [] [pD p,intsD ws] (intsD (tbs p ws.length)) []:=by
 obtain ⟨_,h1,_⟩:=PlanWidth_fn p hs ws (by omega)
 have e0 : (PV ws p == 0) = false:=beq_eq_false_iff_ne.2 hw
 have h2:=addTables_ok hl p hp hs (fun _=>false)
 have hfe : (fun j : Nat=>(false || scn (j : Int) p)) = fun j : Nat=>scn (j : Int) p:=funext fun j=>Bool.false_or _
 rw [hfe,← tbs_cols hl hp] at h2
 have h3 : Does Tryz.prog 38 [] [.nul,pD p] (intsD (tbs p ws.length)) []:=h2.weak ⟨show Sub .nul (.sl 1 []) from Sub.nul 1,Sub.refl _,trivial⟩ (Sub.refl _)
 generalize PV ws p = w at *
 refine Bg c_Z141 mixed (go1 trivial ?_)
 refine Uc @e0 (h1) (go1 @e0 ?_)
 exact Uc trivial (h3) (go0 trivial)
/-! Tables that are not scanned. -/
theorem opT_db {db db' : List Ta} {k t : Int} {es : List E} {cs : List Int} {a b : Ta} (h : k ≠ 1) : opT db k t es cs a b = opT db' k t es cs a b:=by
 unfold opT
 rw [if_neg h,if_neg h]
theorem evP_same {ws : List Nat} {db db' : List Ta} {p : Pl} {n : Nat} (h : Wt ws p n) (hs : ∀ t : Nat,scn (t : Int) p = true → db[t]? = db'[t]?) : evP db p = evP db' p:=by
 have kid : ∀ {p q : Pl},q ∈ p.ks → p.k ≠ 1 → (∀ t : Nat,scn (t : Int) p = true → db[t]? = db'[t]?) → ∀ t : Nat,scn (t : Int) q = true → db[t]? = db'[t]?:=fun {p q} hq hk h t ht=>h t (by rw [scn_eq,if_neg hk,List.any_eq_true]; exact ⟨q,hq,ht⟩)
 induction h with
 | @scan p j w hk ht hw hks=>
  rw [evP_0 hks,evP_0 hks]
  unfold opT
  rw [if_pos hk,if_pos hk,ht,Int.toNat_natCast,List.getD_eq_getElem?_getD,List.getD_eq_getElem?_getD,hs j (by rw [scn_eq,if_pos hk,ht]; exact beq_self_eq_true _)]
 | @filter p q w e hk hks hes hq he ih=>
  have h1:=ih (kid (by rw [hks]; exact List.mem_cons_self ..) (by omega) hs)
  rw [evP_1 hks,evP_1 hks,h1]
  exact opT_db (by omega)
 | @project p q w hk hks hq hes hl ih=>
  have h1:=ih (kid (by rw [hks]; exact List.mem_cons_self ..) (by omega) hs)
  rw [evP_1 hks,evP_1 hks,h1]
  exact opT_db (by omega)
 | @join p q r wa wb e hk hks hes hq hr he hw iq ir=>
  have h1:=iq (kid (by rw [hks]; exact List.mem_cons_self ..) (by omega) hs)
  have h2:=ir (kid (by rw [hks]; exact List.mem_cons_of_mem _ (List.mem_cons_self ..)) (by omega) hs)
  rw [evP_2 hks,evP_2 hks,h1,h2]
  exact opT_db (by omega)
 | @union p q r w hk hks hq hr iq ir=>
  have h1:=iq (kid (by rw [hks]; exact List.mem_cons_self ..) (by omega) hs)
  have h2:=ir (kid (by rw [hks]; exact List.mem_cons_of_mem _ (List.mem_cons_self ..)) (by omega) hs)
  rw [evP_2 hks,evP_2 hks,h1,h2]
  exact opT_db (by omega)
 | @distinct p q w hk hks hq ih=>
  have h1:=ih (kid (by rw [hks]; exact List.mem_cons_self ..) (by omega) hs)
  rw [evP_1 hks,evP_1 hks,h1]
  exact opT_db (by omega)
 | @group p q w hk hks hq hc hl ih=>
  have h1:=ih (kid (by rw [hks]; exact List.mem_cons_self ..) (by omega) hs)
  rw [evP_1 hks,evP_1 hks,h1]
  exact opT_db (by omega)
def emT (S : Nat → Bool) (db : List Ta) : List Ta:=db.zipIdx.map (fun tj=>if S tj.2 then tj.1 else ⟨tj.1.w,[]⟩)
theorem emT_at {S : Nat → Bool} {db : List Ta} {j : Nat} {t : Ta} (h : db[j]? = some t) : (emT S db)[j]? = some (if S j then t else ⟨t.w,[]⟩):=by
 unfold emT
 rw [List.getElem?_map,List.getElem?_zipIdx,h]
 simp
theorem emT_len (S : Nat → Bool) (db : List Ta) : (emT S db).length = db.length:=by unfold emT; rw [List.length_map,List.length_zipIdx]
theorem emT_ws (S : Nat → Bool) (db : List Ta) : dbWs (emT S db) = dbWs db:=by
 apply List.ext_getElem?
 intro j
 unfold dbWs
 rw [List.getElem?_map,List.getElem?_map]
 cases h : db[j]? with
 | none=>
  have : (emT S db)[j]? = none:=List.getElem?_eq_none (by rw [emT_len]; exact List.getElem?_eq_none_iff.1 h)
  rw [this]
 | some t=>
  rw [emT_at h]
  cases S j <;> rfl
theorem emT_mem {S : Nat → Bool} {db : List Ta} {u : Ta} (h : u ∈ emT S db) : ∃ t,t ∈ db ∧ (u = t ∨ u = ⟨t.w,[]⟩):=by
 obtain ⟨j,hj⟩:=List.mem_iff_getElem?.1 h
 have hl:=(List.getElem?_eq_some_iff.1 hj).1
 rw [emT_len] at hl
 have ht:=List.getElem?_eq_getElem hl
 rw [emT_at ht] at hj
 refine ⟨_,List.mem_of_getElem? ht,?_⟩
 cases hS : S j with
 | true=>rw [hS] at hj; exact Or.inl (by simpa using hj.symm)
 | false=>rw [hS] at hj; exact Or.inr (by simpa using hj.symm)
theorem emT_fit {S : Nat → Bool} {db : List Ta} {p : Pl} (h : fitB db p) (hS : ∀ t : Nat,scn (t : Int) p = true → S t = true) : fitB (emT S db) p ∧ evP (emT S db) p = evP db p:=by
 obtain ⟨n,_,hwt,_,_⟩:=fit_wt h
 refine ⟨⟨fun u hu=>?_,by rw [emT_ws]; exact h.2⟩,(evP_same hwt (fun t ht=>?_)).symm⟩
 ·obtain ⟨t,ht,hu⟩:=emT_mem hu
  have hok:=h.1 t ht
  rcases hu with rfl | rfl
  ·exact hok
  ·obtain ⟨w,hw,hw6,_⟩:=tOk_nat hok
   rw [hw]
   exact tOk_of hw6 (Nat.zero_le _) (fun r hr=>by cases hr) List.Pairwise.nil
 ·cases hd : db[t]? with
  | none=>exact (List.getElem?_eq_none (by rw [emT_len]; exact List.getElem?_eq_none_iff.1 hd)).symm
  | some u=>rw [emT_at hd,if_pos (hS t ht)]
end Go.Proofs.YtefldihjbaodnaaGreat
