/-
  PlanCost of both packages. No condition.
-/
import Derived.Test.YtjngffbghkafaaaGreatKSDca
import Derived.Test.YtjngffbghkafaaaGreatKSDcf
import Derived.Test.YtjngffbghkafaaaGreatKSDci
import Derived.Test.YtjngffbghkafaaaGreatJSVPiQ
import Derived.Test.YtjngffbghkafaaaGreatJSVPiL
import Derived.Test.YtjngffbghkafaaaGreatJSVGo
set_option maxHeartbeats 4000000
set_option maxRecDepth 100000
set_option linter.unusedVariables false
set_option linter.unusedSimpArgs false
namespace Go.Proofs.YtjngffbghkafaaaGreat
open Go.RowKit
mutual
def pcS (db : List Ta) : Pl → Nat
 | .mk k t es cs ks=>(evP db (.mk k t es cs ks)).rows.length + pcL db ks
def pcL (db : List Ta) : List Pl → Nat
 | []=>0
 | p :: l=>pcS db p + pcL db l
end
theorem pcS_eq (db : List Ta) (p : Pl) : pcS db p = (evP db p).rows.length + pcL db p.ks:=by
 cases p with
 | mk k t es cs ks=>rw [pcS]; rfl
theorem pcL_app (db : List Ta) : ∀ l m : List Pl,pcL db (l ++ m) = pcL db l + pcL db m
 | [],m=>by rw [List.nil_append,pcL,Nat.zero_add]
 | p :: l,m=>by rw [List.cons_append,pcL,pcL,pcL_app db l m,Nat.add_assoc]
theorem pcL_next {db : List Ta} {ks : List Pl} {i : Nat} {x : Pl} (h : ks[i]? = some x) : pcL db (ks.take (i + 1)) = pcL db (ks.take i) + pcS db x:=by
 rw [take_next h,pcL_app,pcL,pcL,Nat.add_zero]
theorem pcL_le (db : List Ta) (ks : List Pl) (i : Nat) : pcL db (ks.take i) ≤ pcL db ks:=by
 have h:=pcL_app db (ks.take i) (ks.drop i)
 rw [List.take_append_drop] at h
 omega
theorem pc_bound {ws : List Nat} {db : List Ta} (hd : DbW ws db) {p : Pl} {n : Nat} (h : Wt ws p n) : pcS db p ≤ 400 * (psz p + 1):=by
 have hfew : ∀ {p : Pl} {n : Nat},Wt ws p n → (evP db p).rows.length ≤ 400:=fun h=>(evalPlan_ok hd h).1.few
 induction h with
 | @scan p j w hk ht hw hks=>
  have:=hfew (Wt.scan hk ht hw hks)
  rw [pcS_eq,hks,pcL]
  omega
 | @filter p q w e hk hks hes hq he ih=>
  have:=hfew (Wt.filter hk hks hes hq he)
  rw [pcS_eq,psz_eq,hks,pcL,pcL,pszL,pszL]
  omega
 | @project p q w hk hks hq hes hl ih=>
  have:=hfew (Wt.project hk hks hq hes hl)
  rw [pcS_eq,psz_eq,hks,pcL,pcL,pszL,pszL]
  omega
 | @join p q r wa wb e hk hks hes hq hr he hw iq ir=>
  have:=hfew (Wt.join hk hks hes hq hr he hw)
  rw [pcS_eq,psz_eq,hks,pcL,pcL,pcL,pszL,pszL,pszL]
  omega
 | @union p q r w hk hks hq hr iq ir=>
  have:=hfew (Wt.union hk hks hq hr)
  rw [pcS_eq,psz_eq,hks,pcL,pcL,pcL,pszL,pszL,pszL]
  omega
 | @distinct p q w hk hks hq ih=>
  have:=hfew (Wt.distinct hk hks hq)
  rw [pcS_eq,psz_eq,hks,pcL,pcL,pszL,pszL]
  omega
 | @group p q w hk hks hq hc hl ih=>
  have:=hfew (Wt.group hk hks hq hc hl)
  rw [pcS_eq,psz_eq,hks,pcL,pcL,pszL,pszL]
  omega
/-! The model. -/
theorem planCost_step {db : List Ta} {p : Pl} (hb : pcS db p ≤ 1000000000) (hlen : p.ks.length ≤ 1048576) (hev : Does Tryz.prog 59 [] [pD p,tasD db] (taD (evP db p)) []) (hk : ∀ x,x ∈ p.ks → Does Tryz.prog 39 [] [pD x,tasD db] (I (pcS db x)) []) : Does Tryz.prog 39 [] [pD p,tasD db] (I (pcS db p)) []:=by
 have hS:=pcS_eq db p
 have hSi : ((pcS db p : Nat) : Int) = ((evP db p).rows.length : Int) + (pcL db (p.ks.take p.ks.length) : Int):=by rw [List.take_length]; omega
 rw [hSi]
 generalize evP db p = t at *
 refine Bg c_Z129 mixed (go1 trivial ?_)
 refine Uc trivial (hev) (go1 trivial ?_)
 refine dw_for (c:=1) (l:=fun i=>[(1,tasD db),(2,.ref 1000000 0),(5,I ((t.rows.length : Int) + (pcL db (p.ks.take i) : Int))),(6,I i),(1000000,.obj [I p.k,I p.t,.sl 5 (p.es.map eD),intsD p.cs,.sl 5 (p.ks.map pD)])]) p.ks.length (fun _=>True) 0 trivial (Wk.list [2000002] rfl rfl ?_) (fun i hi _=>?_) (Nat.zero_le _)
 ·repeat' (first|(conv in hold _=>simp (disch:=omega) only [go_sem])|exact trivial|exact Sub.refl _|omega)
  (repeat' apply And.intro) <;> first | rfl | exact congrArg (fun n=>D.v (Value.int .i64 n)) (by simp [pcL])
 ·have hle:=pcL_le db p.ks i
  rcases at_or_end hi with ⟨x,hx,hlt⟩ | rfl
  ·have hix:=hk x (List.mem_of_getElem? hx)
   have hnx:=pcL_next (db:=db) hx
   have hle2:=pcL_le db p.ks (i + 1)
   have hsn : (t.rows.length : Int) + (pcL db (p.ks.take (i + 1)) : Int) = (t.rows.length : Int) + (pcL db (p.ks.take i) : Int) + (pcS db x : Int):=by omega
   refine go1 @hx ?_
   refine Uc @hx (hix) (go1 @hx ?_)
   refine ⟨hlt,trivial,Wk.list [1000000] rfl rfl ?_⟩
   repeat' (first|(conv in hold _=>simp (disch:=omega) only [go_sem,hsn])|exact trivial|exact Sub.refl _|omega)
  ·exact go0 trivial
theorem planCost_ok {ws : List Nat} {db : List Ta} (hd : DbW ws db) {p : Pl} {n : Nat} (h : Wt ws p n) : psz p ≤ 1048576 → Does Tryz.prog 39 [] [pD p,tasD db] (I (pcS db p)) []:=by
 have hB : ∀ {p : Pl} {n : Nat},Wt ws p n → psz p ≤ 1048576 → pcS db p ≤ 1000000000:=fun h hs=>by have:=pc_bound hd h; omega
 have hL : ∀ {p : Pl},psz p ≤ 1048576 → p.ks.length ≤ 1048576:=fun {p} hs=>by rw [psz_eq] at hs; have:=pszL_len p.ks; omega
 induction h with
 | @scan p j w hk ht hw hks=>exact fun hs=>planCost_step (hB (Wt.scan hk ht hw hks) hs) (hL hs) (evalPlan_ok hd (Wt.scan hk ht hw hks)).2 (fun x hx=>by rw [hks] at hx; cases hx)
 | @filter p q w e hk hks hes hq he ih=>exact fun hs=>planCost_step (hB (Wt.filter hk hks hes hq he) hs) (hL hs) (evalPlan_ok hd (Wt.filter hk hks hes hq he)).2 (fun x hx=>by
   have hz:=psz_kid hx hs
   rw [hks] at hx
   obtain rfl:=List.mem_singleton.1 hx
   exact ih hz)
 | @project p q w hk hks hq hes hl ih=>exact fun hs=>planCost_step (hB (Wt.project hk hks hq hes hl) hs) (hL hs) (evalPlan_ok hd (Wt.project hk hks hq hes hl)).2 (fun x hx=>by
   have hz:=psz_kid hx hs
   rw [hks] at hx
   obtain rfl:=List.mem_singleton.1 hx
   exact ih hz)
 | @join p q r wa wb e hk hks hes hq hr he hw iq ir=>exact fun hs=>planCost_step (hB (Wt.join hk hks hes hq hr he hw) hs) (hL hs) (evalPlan_ok hd (Wt.join hk hks hes hq hr he hw)).2 (fun x hx=>by
   have hz:=psz_kid hx hs
   rw [hks] at hx
   rcases List.mem_cons.1 hx with rfl | hx
   ·exact iq hz
   ·obtain rfl:=List.mem_singleton.1 hx
    exact ir hz)
 | @union p q r w hk hks hq hr iq ir=>exact fun hs=>planCost_step (hB (Wt.union hk hks hq hr) hs) (hL hs) (evalPlan_ok hd (Wt.union hk hks hq hr)).2 (fun x hx=>by
   have hz:=psz_kid hx hs
   rw [hks] at hx
   rcases List.mem_cons.1 hx with rfl | hx
   ·exact iq hz
   ·obtain rfl:=List.mem_singleton.1 hx
    exact ir hz)
 | @distinct p q w hk hks hq ih=>exact fun hs=>planCost_step (hB (Wt.distinct hk hks hq) hs) (hL hs) (evalPlan_ok hd (Wt.distinct hk hks hq)).2 (fun x hx=>by
   have hz:=psz_kid hx hs
   rw [hks] at hx
   obtain rfl:=List.mem_singleton.1 hx
   exact ih hz)
 | @group p q w hk hks hq hc hl ih=>exact fun hs=>planCost_step (hB (Wt.group hk hks hq hc hl) hs) (hL hs) (evalPlan_ok hd (Wt.group hk hks hq hc hl)).2 (fun x hx=>by
   have hz:=psz_kid hx hs
   rw [hks] at hx
   obtain rfl:=List.mem_singleton.1 hx
   exact ih hz)
/-! The program. -/
def cstT (db : List Ta) (u : Int) : List D:=[.obj [.fn 84 [.ref 1000002 0]],.obj [I u],.obj [tasD db]]
def cstTV : D:=.fn 83 [.ref 1000000 0,.ref 1000001 0]
attribute [go_sem] cstT cstTV
theorem modelT_ok {db q : List Ta} {p : Pl} {t : Ta} (r : Does Tryz.prog 56 [] [pD p,tasD q,tasD db] (taD t) []) : Does Tryz.prog 84 [.obj [tasD db]] [pD p,tasD q,.ref 1000000 0] (.tup [taD t,I t.rows.length]) [.obj [tasD db]]:=by
 refine Bk c_Z52 mixed 1 (go1 trivial ?_)
 refine Uc trivial (r) (go1 trivial ?_)
 refine fin_L [1000000] ?_ ?_ rfl ?_
 repeat' (first|(conv in hold _=>simp (disch:=omega) only [go_sem])|exact trivial|exact Sub.refl _|omega)
theorem visitT_ok {db q : List Ta} {p : Pl} {t : Ta} {u : Int} (hu : 0 ≤ u ∧ u ≤ 1000000000000) (ht : t.rows.length ≤ 1000) (r : Does Tryz.prog 56 [] [pD p,tasD q,tasD db] (taD t) []) :
  Does Tryz.prog 83 (cstT db u) [pD p,tasD q,.ref 1000000 0,.ref 1000001 0] (taD t) (cstT db (u + t.rows.length)):=by
 have hm:=modelT_ok r
 refine Bk c_Z15 mixed 3 (go1 trivial ?_)
 refine v_fn ((by kernel_rfl)) ?_
 refine UcR [1000002] trivial (hm) (go1 trivial ?_)
 refine fin_L [1000000,1000001,1000002] ?_ ?_ rfl ?_
 repeat' (first|(conv in hold _=>simp (disch:=omega) only [go_sem])|exact trivial|exact Sub.refl _|omega)
theorem foldP_ok {db : List Ta} {p : Pl} {t : Ta} (h : ResT db p t) : ∀ u : Int,0 ≤ u → u + pcS db p ≤ 1000000000 →
  Does Tryz.prog 54 (cstT db u) [pD p,cstTV] (taD t) (cstT db (u + pcS db p)):=by
 induction h with
 | @mk p t q hl hk4 hk hr hp hfew ih=>
  intro u hu0 hub
  have hrl:=hp.length_eq
  have hS:=pcS_eq db p
  have hv:=visitT_ok (u:=u + (pcL db p.ks : Int)) (by omega) (by omega) hr
  have he : u + ((pcS db p : Nat) : Int) = u + (pcL db p.ks : Int) + (t.rows.length : Int):=by omega
  rw [he]
  refine Bk c_Z19 mixed 3 (go1 trivial ?_)
  refine dw_for (c:=6) (l:=fun i=>[(1,cstTV),(2,.ref 1000003 0),(4,.ref 1000004 0),(5,.own 1000005 2 i),(9,.sl 5 (p.ks.map pD)),(10,I p.ks.length),(11,I i),(1000000,.obj [.fn 84 [.ref 1000002 0]]),(1000001,.obj [I (u + (pcL db (p.ks.take i) : Int))]),(1000002,.obj [tasD db]),(1000003,.obj [I p.k,I p.t,.sl 5 (p.es.map eD),intsD p.cs,.sl 5 (p.ks.map pD)]),(1000004,.obj [I 0,.nul]),(1000005,.row 2 ((q.take i).map taD))]) p.ks.length (fun _=>True) 0 trivial ((wk_row 5 2000090 2 (by decide) (by decide) rfl rfl).trans (Wk.list [1000000,1000001,1000002,2000002,2000004,2000090] rfl rfl ?_)) (fun i hi _=>?_) (Nat.zero_le _)
  ·repeat' (first|(conv in hold _=>simp (disch:=omega) only [go_sem])|exact trivial|exact Sub.refl _|omega)
   (repeat' apply And.intro) <;> first | rfl | exact congrArg (fun n=>D.obj [D.v (Value.int .i64 n)]) (by simp [pcL])
  ·have htl : (q.take i).length = i:=by rw [List.length_take]; omega
   have hmk:=take_map taD (vs:=q) (i:=i) (by omega)
   have hle:=pcL_le db p.ks i
   rcases at_or_end hi with ⟨x,hx,hlt⟩ | rfl
   ·obtain ⟨c,hqx⟩ : ∃ c,q[i]? = some c:=⟨_,List.getElem?_eq_getElem (by omega)⟩
    have hnx:=take_next hqx
    have hpn:=pcL_next (db:=db) hx
    have hle2:=pcL_le db p.ks (i + 1)
    have hsn : u + ((pcL db (p.ks.take (i + 1)) : Nat) : Int) = u + (pcL db (p.ks.take i) : Int) + (pcS db x : Int):=by omega
    have hix:=ih i x c hx hqx (u + (pcL db (p.ks.take i) : Int)) (by omega) (by omega)
    refine go1 @hx ?_
    refine UcR [1000000,1000001,1000002] @htl (hix) (go1 @htl ?_)
    refine ⟨hlt,trivial,Wk.list [1000000,1000001,1000002,1000003,1000004,2000020] rfl rfl ?_⟩
    repeat' (first|(conv in hold _=>simp (disch:=omega) only [go_sem,List.length_map,htl])|exact trivial|exact Sub.refl _|omega)
    rw [hmk,hnx,List.map_append,hsn]
    (repeat' apply And.intro) <;> rfl
   ·have e1 : q.take p.ks.length = q:=List.take_of_length_le (by omega)
    have e2 : (q.map taD).take p.ks.length = q.map taD:=List.take_of_length_le (by rw [List.length_map]; omega)
    have e3 : p.ks.take p.ks.length = p.ks:=List.take_length
    rw [e1,e3]
    refine go1C trivial ?_
    refine s_pre (pre_frz (t:=24) (g:=1000005) (by decide) (by decide) rfl ?_) ?_
    rotate_left
    refine go1 (cj2 @e2 @hl) ?_
    ·refine v_fn ((by kernel_rfl)) ?_
     refine UcR [1000000,1000001,1000002] trivial (hv) (go1 trivial ?_)
     refine fin_L [1000000,1000001,1000002] ?_ ?_ rfl ?_
     repeat' (first|(conv in hold _=>simp (disch:=omega) only [go_sem])|exact trivial|exact Sub.refl _|omega)
    ·exact tas_pur _
theorem actualCost_ok (db : List Ta) : Does Tryz.prog 47 [] [tasD db] (.fn 84 [.ref 1000000 0]) [.obj [tasD db]]:=by
 refine Bk c_Z82 mixed 0 (go1 trivial ?_)
 refine fin_L [2000001] ?_ ?_ rfl ?_
 repeat' (first|(conv in hold _=>simp (disch:=omega) only [go_sem])|exact trivial|exact Sub.refl _|omega)
theorem totalT_ok {db : List Ta} {p : Pl} {t : Ta} {c : Nat} (h : Does Tryz.prog 54 (cstT db 0) [pD p,cstTV] (taD t) (cstT db ((0 : Int) + c))) : Does Tryz.prog 46 [.obj [tasD db]] [pD p,.fn 84 [.ref 1000000 0]] (I c) [.obj [tasD db]]:=by
 rw [Int.zero_add] at h
 refine Bk c_Z18 mixed 1 (go1 trivial ?_)
 refine UcR [2000003,2000005,1000000] trivial (h) (go1 trivial ?_)
 refine fin_L [1000000] ?_ ?_ rfl ?_
 repeat' (first|(conv in hold _=>simp (disch:=omega) only [go_sem])|exact trivial|exact Sub.refl _|omega)
theorem PlanCost_fit {db : List Ta} {p : Pl} (hf : fitB db p) (hs : psz p ≤ 1048576) (hl : db.length ≤ 1048576) (hsz : ∀ t,t ∈ db → rsz t.rows ≤ 1048576) :
  Does Tryz.prog 14 [] [pD p,tasD db] (I (pcS db p)) [] ∧ Does Tryz.prog 11 [] [pD p,tasD db] (I (pcS db p)) []:=by
 obtain ⟨n,hn,hwt,hd,hT⟩:=fit_wt hf
 have hwl : (natI (dbWs db)).length ≤ 1048576:=by unfold natI dbWs; rw [List.length_map,List.length_map]; omega
 obtain ⟨_,g1,g2⟩:=PlanWidth_fn p hs (natI (dbWs db)) hwl
 have hw1:=tableWidths_t hl hf.1 hsz
 have hw2:=widthsOf_t hl hf.1
 have hpc:=planCost_ok hd hwt hs
 obtain ⟨t,_,_,hR⟩:=res_ok hd hwt hs
 have hb:=pc_bound hd hwt
 have hfo:=foldP_ok hR 0 (by decide) (by omega)
 have hto:=totalT_ok hfo
 have hac:=actualCost_ok db
 have hne : (PV (natI (dbWs db)) p == 0) = false:=beq_eq_false_iff_ne.2 hf.2
 generalize PV (natI (dbWs db)) p = w at *
 constructor
 ·refine Bg c_Z109 mixed (go1 trivial ?_)
  refine Uc trivial (hw1) (go1 trivial ?_)
  refine Uc @hne (g2) (go1 @hne ?_)
  refine UcR [3000001] trivial (hac) (go1 trivial ?_)
  exact UcR [3000001] trivial (hto) (go0 trivial)
 ·refine Bg c_Z123 mixed (go1 trivial ?_)
  refine Uc trivial (hw2) (go1 trivial ?_)
  refine Uc @hne (g1) (go1 @hne ?_)
  exact Uc trivial (hpc) (go0 trivial)
theorem PlanCost_no {db : List Ta} {p : Pl} (hf : ¬ fitB db p) (hs : psz p ≤ 1048576) (hl : db.length ≤ 1048576) (hsz : ∀ t,t ∈ db → rsz t.rows ≤ 1048576) :
  Does Tryz.prog 14 [] [pD p,tasD db] (I (-1)) [] ∧ Does Tryz.prog 11 [] [pD p,tasD db] (I (-1)) []:=by
 have hwl : (natI (dbWs db)).length ≤ 1048576:=by unfold natI dbWs; rw [List.length_map,List.length_map]; omega
 by_cases hok : dbOk db
 ·obtain ⟨_,g1,g2⟩:=PlanWidth_fn p hs (natI (dbWs db)) hwl
  have h0 : PV (natI (dbWs db)) p = 0:=Classical.byContradiction fun hne=>hf ⟨hok,hne⟩
  rw [h0] at g1 g2
  have hw1:=tableWidths_t hl hok hsz
  have hw2:=widthsOf_t hl hok
  constructor
  ·refine Bg c_Z109 mixed (go1 trivial ?_)
   refine Uc trivial (hw1) (go1 trivial ?_)
   exact Uc trivial (g2) (go0 trivial)
  ·refine Bg c_Z123 mixed (go1 trivial ?_)
   refine Uc trivial (hw2) (go1 trivial ?_)
   exact Uc trivial (g1) (go0 trivial)
 ·obtain ⟨_,g1,g2⟩:=PlanWidth_fn p hs (natI []) (by decide)
  have h0 : PV (natI []) p = 0:=if_neg (fun h=>by have:=h.1.1; simp [natI] at this)
  rw [h0] at g1 g2
  have hw1:=tableWidths_f hl hsz hok
  have hw2:=widthsOf_f hl hsz hok
  constructor
  ·refine Bg c_Z109 mixed (go1 trivial ?_)
   refine Uc trivial (hw1) (go1 trivial ?_)
   exact Uc trivial (g2) (go0 trivial)
  ·refine Bg c_Z123 mixed (go1 trivial ?_)
   refine Uc trivial (hw2) (go1 trivial ?_)
   exact Uc trivial (g1) (go0 trivial)
end Go.Proofs.YtjngffbghkafaaaGreat
