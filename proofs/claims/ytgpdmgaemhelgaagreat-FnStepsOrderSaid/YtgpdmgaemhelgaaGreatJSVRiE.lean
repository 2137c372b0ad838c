/-
  Every rule of the program at a part of a valid plan. No condition.
-/
import Derived.Test.YtgpdmgaemhelgaaGreatJSVRsC
import Derived.Test.YtgpdmgaemhelgaaGreatKSDca
import Derived.Test.YtgpdmgaemhelgaaGreatKSDcf
import Derived.Test.YtgpdmgaemhelgaaGreatJSVPaD
import Derived.Test.YtgpdmgaemhelgaaGreatJSVPlanE
import Derived.Test.YtgpdmgaemhelgaaGreatJSVPb
import Derived.Test.YtgpdmgaemhelgaaGreatJSVYld
import Derived.Test.YtgpdmgaemhelgaaGreatKSDcg
set_option maxHeartbeats 4000000
set_option maxRecDepth 100000
set_option linter.unusedVariables false
set_option linter.unusedSimpArgs false
set_option linter.unusedSectionVars false
namespace Go.Proofs.YtgpdmgaemhelgaaGreat
open Go.RowKit
theorem wf_ks {ws : List Int} {a : Pl} {d : Nat} {u : Int} (h : Wf ws a d u) (hk : a.k ≠ 1) : ∃ (k t : Int) (es : List E) (cs : List Int) (q : Pl) (l : List Pl),a = .mk k t es cs (q :: l):=by
 cases h with
 | scan h=>exact absurd rfl hk
 | filter hq he=>exact ⟨_,_,_,_,_,_,rfl⟩
 | project hq hl he=>exact ⟨_,_,_,_,_,_,rfl⟩
 | join hk hq hr hab he=>exact ⟨_,_,_,_,_,_,rfl⟩
 | union hq hr=>exact ⟨_,_,_,_,_,_,rfl⟩
 | distinct hq=>exact ⟨_,_,_,_,_,_,rfl⟩
 | group hq hc=>exact ⟨_,_,_,_,_,_,rfl⟩
theorem lvP_none (ws : List Int) (lev : Nat) : lvP ws lev none = none:=rfl
theorem lvP_zero {ws : List Int} {lev : Nat} {o : Option Pl} (h : ∀ q,o = some q → wdV ws q lev = 0) : lvP ws lev o = none:=by
 cases o with
 | none=>rfl
 | some q=>exact if_pos (h q rfl)
theorem paD_ite {q : Pl} {c : Prop} [Decidable c] : paD (if c then some q else none) = if c then .tup [pD q,Bo true] else .tup [pD zP,Bo false]:=by
 split <;> rfl
section
variable {ws : List Int} (hw : wsOk ws) {a : Pl} {d : Nat} {u : Int} (h : Wf ws a d u) (hd : d ≤ 8) (lev : Nat) (hlev : lev ≤ 8) {f : FuncId} (hf : enters Tryz.prog f = true)
include hw h hd hlev hf
theorem rkK (kind : Int) (hk1 : kind ≠ 1) (kk : List Int) (h0 : 0 < kk.length) (hl : kk.length ≤ 10) (o : Option Pl) (hlo : ∀ x,o = some x → Loc x) (n1 : a.k ≠ kind → o = none) (n2 : a.k = kind → ¬ (kOf a).k ∈ kk → o = none)
  (go : a.k = kind → (kOf a).k ∈ kk → Does Tryz.prog f [] [pD a,pD (kOf a),intsD ws] (paD o) [] ∨ (Does Tryz.prog f [] [pD a,pD (kOf a),intsD ws] (paD none) [] ∧ ∀ q,o = some q → wdV ws q lev = 0)) :
  Does Tryz.prog 86 [] [ruD kind (intsD kk) f,pD a,intsD ws,I lev] (paD (lvP ws lev o)) []:=by
 by_cases hk : a.k = kind
 ·obtain ⟨k,t,es,cs,q,l,rfl⟩:=wf_ks h (by omega)
  obtain rfl : k = kind:=hk
  by_cases hm : q.k ∈ kk
  ·rcases go rfl hm with g | ⟨g,hz⟩
   ·exact ruleK_go hw hf lev hlev kk h0 hl hm hlo g
   ·rw [lvP_zero hz,← lvP_none ws lev]
    exact ruleK_go hw hf lev hlev kk h0 hl hm (fun x hx=>by cases hx) g
  ·rw [n2 rfl hm,lvP_none]
   exact ruleK_kid kk ws lev h0 hl hm
 ·rw [n1 hk,lvP_none]
  exact ruleK_no kk ws lev hk
theorem rkN (kind : Int) (hk1 : kind ≠ 1) (o : Option Pl) (hlo : ∀ x,o = some x → Loc x) (n1 : a.k ≠ kind → o = none)
  (go : a.k = kind → Does Tryz.prog f [] [pD a,pD (kOf a),intsD ws] (paD o) []) :
  Does Tryz.prog 86 [] [ruD kind .nul f,pD a,intsD ws,I lev] (paD (lvP ws lev o)) []:=by
 by_cases hk : a.k = kind
 ·obtain ⟨k,t,es,cs,q,l,rfl⟩:=wf_ks h (by omega)
  obtain rfl : k = kind:=hk
  exact ruleN_go hw hf lev hlev hlo (go rfl)
 ·rw [n1 hk,lvP_none]
  exact ruleN_no ws lev hk
end
section
variable {ws : List Int} (hw : wsOk ws) {a : Pl} {d : Nat} {u : Int} (h : Wf ws a d u) (hd : d ≤ 8) (lev : Nat) (hlev : lev ≤ 8)
include hw h hd hlev
theorem ra1 : Does Tryz.prog 86 [] [ruD 2 (intsD [2]) 122,pD a,intsD ws,I lev] (paD (lvP ws lev (ru1 a))) []:=by
 refine rkK hw h hd lev hlev (by kernel_rfl) 2 (by decide) [2] (by decide) (by decide) _ (fun x hx=>ru_loc hw h hd (r:=1) hx) (fun hk=>if_neg (fun g=>hk g.1)) (fun _ hm=>if_neg (fun g=>hm (by rw [g.2]; simp))) (fun hk hm=>.inl ?_)
 obtain ⟨e,k,f,rfl,rfl,h1,_⟩:=wf_2 h hk
 obtain ⟨e',x,f',rfl,rfl,h2,_⟩:=wf_2 h1 (by simpa [kOf_mk] using hm)
 rw [show ru1 (.mk 2 0 [e] [] [.mk 2 0 [e'] [] [x]]) = some (.mk 2 0 [.mk 8 0 ⟨false,0⟩ [e',e]] [] [x]) from if_pos ⟨rfl,rfl⟩]
 exact i1 hw
theorem ra2 : Does Tryz.prog 86 [] [ruD 2 .nul 123,pD a,intsD ws,I lev] (paD (lvP ws lev (ru2 a))) []:=by
 refine rkN hw h hd lev hlev (by kernel_rfl) 2 (by decide) _ (fun x hx=>ru_loc hw h hd (r:=2) hx) (fun hk=>if_neg (fun g=>hk g.1)) (fun hk=>?_)
 obtain ⟨e,k,f,rfl,rfl,h1,he⟩:=wf_2 h hk
 by_cases hke : e.k = 8
 ·obtain ⟨x,y,hks⟩ : ∃ a b,e.ks = [a,b]:=by
   rcases eOk_kids he with ⟨h3,_⟩ | ⟨h3,_⟩ | ⟨_,a,b,hks,_,_⟩
   ·omega
   ·omega
   ·exact ⟨a,b,hks⟩
  obtain ⟨ek,ec,ev',eks⟩:=e
  simp only [E.k_mk,E.ks_mk] at hke hks
  subst hke hks
  rw [show ru2 (.mk 2 0 [.mk 8 ec ev' [x,y]] [] [k]) = some (.mk 2 0 [y] [] [.mk 2 0 [x] [] [k]]) from if_pos ⟨rfl,rfl⟩]
  exact i2t hw
 ·rw [show ru2 (.mk 2 0 [e] [] [k]) = none from if_neg (fun g=>hke g.2)]
  exact i2f hw hke
theorem ra3 : Does Tryz.prog 86 [] [ruD 2 (intsD [4,5]) 124,pD a,intsD ws,I lev] (paD (lvP ws lev (ru3 ws a))) []:=by
 refine rkK hw h hd lev hlev (by kernel_rfl) 2 (by decide) [4,5] (by decide) (by decide) _ (fun x hx=>ru_loc hw h hd (r:=3) hx) (fun hk=>if_neg (fun g=>hk g.1)) (fun _ hm=>if_neg (fun g=>hm (by simpa using g.2.1))) (fun hk hm=>.inl ?_)
 obtain ⟨e,k,f,rfl,rfl,h1,he⟩:=wf_2 h hk
 have hm2 : k.k = 4 ∨ k.k = 5:=by simpa [kOf_mk] using hm
 obtain ⟨e',x,y,f,a,b,hp,rfl,rfl,hx,hy,hab,he'⟩:=wf_45 h1 hm2
 generalize k.k = kk at *
 subst hp
 have hwx:=(planI hw hx (by omega)).2
 have hr : ru3 ws (.mk 2 0 [e] [] [.mk kk 0 [e'] [] [x,y]]) = if lowC e a then some (.mk kk 0 [e'] [] [.mk 2 0 [e] [] [x],y]) else none:=by
  show ru3 ws _ = _
  unfold ru3
  simp only [fiP,eOf_mk,kOf_mk,lOf_mk,Pl.k_mk,Pl.es_mk,hwx]
  by_cases hl : lowC e a
  ·rw [if_pos ⟨trivial,hm2,hl⟩,if_pos hl]
  ·rw [if_neg (fun g=>hl g.2.2),if_neg hl]
 rw [hr,paD_ite]
 exact i3 hw hm2 hx hy hab he (by omega)
theorem ra4 : Does Tryz.prog 86 [] [ruD 2 (intsD [4]) 125,pD a,intsD ws,I lev] (paD (lvP ws lev (ru4 ws a))) []:=by
 refine rkK hw h hd lev hlev (by kernel_rfl) 2 (by decide) [4] (by decide) (by decide) _ (fun x hx=>ru_loc hw h hd (r:=4) hx) (fun hk=>if_neg (fun g=>hk g.1)) (fun _ hm=>if_neg (fun g=>hm (by rw [g.2.1]; simp))) (fun hk hm=>.inl ?_)
 obtain ⟨e,k,f,rfl,rfl,h1,he⟩:=wf_2 h hk
 have hm2 : k.k = 4:=by simpa [kOf_mk] using hm
 obtain ⟨e',x,y,f,a,b,hp,rfl,rfl,hx,hy,hab,he'⟩:=wf_45 h1 (.inl hm2)
 rw [hm2] at hp
 subst hp
 have hwx:=(planI hw hx (by omega)).2
 have hwy:=(planI hw hy (by omega)).2
 have hr : ru4 ws (.mk 2 0 [e] [] [.mk 4 0 [e'] [] [x,y]]) = if highC e a then some (.mk 4 0 [e'] [] [x,.mk 2 0 [subE (byR a b) e] [] [y]]) else none:=by
  show ru4 ws _ = _
  unfold ru4
  simp only [fiP,eOf_mk,kOf_mk,lOf_mk,Pl.k_mk,Pl.es_mk,hwx,hwy]
  by_cases hl : highC e a
  ·rw [if_pos ⟨trivial,trivial,hl⟩,if_pos hl]
  ·rw [if_neg (fun g=>hl g.2.2),if_neg hl]
 rw [hr,paD_ite]
 exact i4 hw hx hy hab he (by omega)
theorem ra5 : Does Tryz.prog 86 [] [ruD 2 (intsD [4]) 126,pD a,intsD ws,I lev] (paD (lvP ws lev (ru5 a))) []:=by
 refine rkK hw h hd lev hlev (by kernel_rfl) 2 (by decide) [4] (by decide) (by decide) _ (fun x hx=>ru_loc hw h hd (r:=5) hx) (fun hk=>if_neg (fun g=>hk g.1)) (fun _ hm=>if_neg (fun g=>hm (by rw [g.2]; simp))) (fun hk hm=>.inl ?_)
 obtain ⟨e,k,f,rfl,rfl,h1,he⟩:=wf_2 h hk
 have hm2 : k.k = 4:=by simpa [kOf_mk] using hm
 obtain ⟨e',x,y,f,a,b,hp,rfl,rfl,hx,hy,hab,he'⟩:=wf_45 h1 (.inl hm2)
 rw [hm2] at hp
 subst hp
 rw [show ru5 (.mk 2 0 [e] [] [.mk 4 0 [e'] [] [x,y]]) = some (.mk 4 0 [.mk 8 0 ⟨false,0⟩ [e',e]] [] [x,y]) from if_pos ⟨rfl,rfl⟩]
 exact i5 hw
theorem ra6 : Does Tryz.prog 86 [] [ruD 4 .nul 127,pD a,intsD ws,I lev] (paD (lvP ws lev (ru6 ws a))) []:=by
 refine rkN hw h hd lev hlev (by kernel_rfl) 4 (by decide) _ (fun x hx=>ru_loc hw h hd (r:=6) hx) (fun hk=>if_neg (fun g=>hk g)) (fun hk=>?_)
 obtain ⟨e,x,y,f,a',b,hp,rfl,rfl,hx,hy,hab,he⟩:=wf_45 h (.inl hk)
 rw [hk] at hp
 subst hp
 have hwx:=(planI hw hx (by omega)).2
 have hwy:=(planI hw hy (by omega)).2
 have hr : ru6 ws (.mk 4 0 [e] [] [x,y]) = some (.mk 3 0 (byB a' b) [] [.mk 4 0 [subE (byB a' b) e] [] [y,x]]):=by
  show ru6 ws _ = _
  unfold ru6
  rw [if_pos (show (Pl.mk 4 0 [e] [] [x,y]).k = 4 from rfl)]
  simp only [prP,eOf_mk,kOf_mk,lOf_mk,hwx,hwy]
 rw [hr]
 exact i6 hw hx hy hab he (by omega)
theorem ra7 : Does Tryz.prog 86 [] [ruD 2 (intsD [5]) 128,pD a,intsD ws,I lev] (paD (lvP ws lev (ru7 ws a))) []:=by
 refine rkK hw h hd lev hlev (by kernel_rfl) 2 (by decide) [5] (by decide) (by decide) _ (fun x hx=>ru_loc hw h hd (r:=7) hx) (fun hk=>if_neg (fun g=>hk g.1)) (fun _ hm=>if_neg (fun g=>hm (by rw [g.2.1]; simp))) (fun hk hm=>.inl ?_)
 obtain ⟨e,k,f,rfl,rfl,h1,he⟩:=wf_2 h hk
 have hm2 : k.k = 5:=by simpa [kOf_mk] using hm
 obtain ⟨e',x,y,f,a,b,hp,rfl,rfl,hx,hy,hab,he'⟩:=wf_45 h1 (.inr hm2)
 rw [hm2] at hp
 subst hp
 have hwx:=(planI hw hx (by omega)).2
 have hwy:=(planI hw hy (by omega)).2
 have hr : ru7 ws (.mk 2 0 [e] [] [.mk 5 0 [e'] [] [x,y]]) = if rejB e a b = true then some (.mk 2 0 [e] [] [.mk 4 0 [e'] [] [x,y]]) else none:=by
  show ru7 ws _ = _
  unfold ru7
  simp only [fiP,eOf_mk,kOf_mk,lOf_mk,Pl.k_mk,Pl.es_mk,Pl.ks_mk,hwx,hwy]
  by_cases hl : rejB e a b = true
  ·rw [if_pos ⟨trivial,trivial,hl⟩,if_pos hl]
  ·rw [if_neg (fun g=>hl g.2.2),if_neg hl]
 rw [hr,paD_ite]
 exact i7 hw hx hy hab he (by omega)
theorem ra8 : Does Tryz.prog 86 [] [ruD 2 (intsD [6]) 129,pD a,intsD ws,I lev] (paD (lvP ws lev (ru8 a))) []:=by
 refine rkK hw h hd lev hlev (by kernel_rfl) 2 (by decide) [6] (by decide) (by decide) _ (fun x hx=>ru_loc hw h hd (r:=8) hx) (fun hk=>if_neg (fun g=>hk g.1)) (fun _ hm=>if_neg (fun g=>hm (by rw [g.2]; simp))) (fun hk hm=>.inl ?_)
 obtain ⟨e,k,f,rfl,rfl,h1,he⟩:=wf_2 h hk
 obtain ⟨x,y,f,rfl,rfl,hx,hy⟩:=wf_6 h1 (by simpa [kOf_mk] using hm)
 rw [show ru8 (.mk 2 0 [e] [] [.mk 6 0 [] [] [x,y]]) = some (.mk 6 0 [] [] [.mk 2 0 [e] [] [x],.mk 2 0 [e] [] [y]]) from if_pos ⟨rfl,rfl⟩]
 exact i8 hw
theorem ra9 : Does Tryz.prog 86 [] [ruD 7 (intsD [7,8]) 130,pD a,intsD ws,I lev] (paD (lvP ws lev (ru9 a))) []:=by
 refine rkK hw h hd lev hlev (by kernel_rfl) 7 (by decide) [7,8] (by decide) (by decide) _ (fun x hx=>ru_loc hw h hd (r:=9) hx) (fun hk=>if_neg (fun g=>hk g.1)) (fun _ hm=>if_neg (fun g=>hm (by simpa using g.2))) (fun hk hm=>.inl ?_)
 rw [show ru9 a = some (kOf a) from if_pos ⟨hk,by simpa using hm⟩]
 exact i9 hw
theorem ra10 : Does Tryz.prog 86 [] [ruD 2 (intsD [3]) 131,pD a,intsD ws,I lev] (paD (lvP ws lev (ru10 a))) []:=by
 refine rkK hw h hd lev hlev (by kernel_rfl) 2 (by decide) [3] (by decide) (by decide) _ (fun x hx=>ru_loc hw h hd (r:=10) hx) (fun hk=>if_neg (fun g=>hk g.1)) (fun _ hm=>if_neg (fun g=>hm (by rw [g.2]; simp))) (fun hk hm=>?_)
 obtain ⟨e,k,f,rfl,rfl,h1,he⟩:=wf_2 h hk
 obtain ⟨es,x,f,v,rfl,rfl,rfl,hx,hl,hes⟩:=wf_3 h1 (by simpa [kOf_mk] using hm)
 have hi:=i10 hw hx hl hes he (by omega)
 rw [show ru10 (.mk 2 0 [e] [] [.mk 3 0 es [] [x]]) = some (.mk 3 0 es [] [.mk 2 0 [subE es e] [] [x]]) from if_pos ⟨rfl,rfl⟩]
 by_cases ho : eOk (subE es e) v 8
 ·rw [if_pos ho] at hi
  exact .inl hi
 ·rw [if_neg ho] at hi
  refine .inr ⟨hi,fun q hq=>Classical.byContradiction fun hne=>ho ?_⟩
  cases hq
  have hv:=wf_of _ _ hne
  obtain ⟨es2,q2,f2,v2,hp2,_,_,hj,_,_⟩:=wf_3 hv rfl
  simp only [Pl.mk.injEq,List.cons.injEq,and_true,true_and] at hp2
  rw [← hp2.2] at hj
  obtain ⟨e3,q3,f3,hp3,_,hq3,he3⟩:=wf_2 hj rfl
  simp only [Pl.mk.injEq,List.cons.injEq,and_true,true_and] at hp3
  rw [← hp3.2] at hq3
  rw [← hp3.1] at he3
  rw [wf_same hw hx hq3]
  exact he3
theorem ra11 : Does Tryz.prog 86 [] [ruD 3 (intsD [3]) 132,pD a,intsD ws,I lev] (paD (lvP ws lev (ru11 a))) []:=by
 refine rkK hw h hd lev hlev (by kernel_rfl) 3 (by decide) [3] (by decide) (by decide) _ (fun x hx=>ru_loc hw h hd (r:=11) hx) (fun hk=>if_neg (fun g=>hk g.1)) (fun _ hm=>if_neg (fun g=>hm (by rw [g.2]; simp))) (fun hk hm=>?_)
 obtain ⟨es,k,f,v,rfl,rfl,rfl,h1,hl,hes⟩:=wf_3 h hk
 obtain ⟨fs,x,f,v2,rfl,rfl,rfl,hx,hl2,hfs⟩:=wf_3 h1 (by simpa [kOf_mk] using hm)
 rw [show ru11 (.mk 3 0 es [] [.mk 3 0 fs [] [x]]) = some (.mk 3 0 (es.map (subE fs)) [] [x]) from if_pos ⟨rfl,rfl⟩]
 by_cases ho : ∀ e,e ∈ es → eOk (subE fs e) v2 8
 ·exact .inl (i11 hw hx hl hes hl2 hfs (by omega) _ (fun _=>rfl) (fun hn=>absurd ho hn))
 ·refine .inr ⟨i11 hw hx hl hes hl2 hfs (by omega) _ (fun hn=>absurd hn ho) (fun _=>rfl),fun q hq=>Classical.byContradiction fun hne=>ho fun e hem=>?_⟩
  cases hq
  have hv:=wf_of _ _ hne
  obtain ⟨es2,q2,f2,v3,hp2,_,_,hj,_,hes2⟩:=wf_3 hv rfl
  simp only [Pl.mk.injEq,List.cons.injEq,and_true,true_and] at hp2
  rw [← hp2.2] at hj
  rw [wf_same hw hx hj]
  exact hes2 _ (by rw [← hp2.1]; exact List.mem_map_of_mem hem)
theorem rule_at (r : Nat) (hr : r < 12) : ∃ c1 c2 c3,rulesD[r]? = some (.agg [c1,c2,c3]) ∧ Does Tryz.prog 86 [] [.agg [c1,c2,c3],pD a,intsD ws,I lev] (paD (lvP ws lev (ruP ws r a))) []:=by
 match r,hr with
 | 0,_=>
  refine ⟨_,_,_,rfl,?_⟩
  rw [show ruP ws ((0 : Nat) : Int) a = none from rfl,lvP_none]
  refine rule0_ok ws lev (fun h0=>?_)
  cases h with
  | join hk _ _ _ _=>simp only [Pl.k] at h0; omega
  | _=>simp [Pl.k] at h0
 | 1,_=>exact ⟨_,_,_,rfl,ra1 hw h hd lev hlev⟩
 | 2,_=>exact ⟨_,_,_,rfl,ra2 hw h hd lev hlev⟩
 | 3,_=>exact ⟨_,_,_,rfl,ra3 hw h hd lev hlev⟩
 | 4,_=>exact ⟨_,_,_,rfl,ra4 hw h hd lev hlev⟩
 | 5,_=>exact ⟨_,_,_,rfl,ra5 hw h hd lev hlev⟩
 | 6,_=>exact ⟨_,_,_,rfl,ra6 hw h hd lev hlev⟩
 | 7,_=>exact ⟨_,_,_,rfl,ra7 hw h hd lev hlev⟩
 | 8,_=>exact ⟨_,_,_,rfl,ra8 hw h hd lev hlev⟩
 | 9,_=>exact ⟨_,_,_,rfl,ra9 hw h hd lev hlev⟩
 | 10,_=>exact ⟨_,_,_,rfl,ra10 hw h hd lev hlev⟩
 | 11,_=>exact ⟨_,_,_,rfl,ra11 hw h hd lev hlev⟩
end
end Go.Proofs.YtgpdmgaemhelgaaGreat
set_option maxHeartbeats 4000000
set_option maxRecDepth 100000
set_option linter.unusedVariables false
set_option linter.unusedSimpArgs false
set_option linter.unusedSectionVars false
namespace Go.Proofs.YtgpdmgaemhelgaaGreat
open Go.RowKit
def rsD (p : Pl) : Option Pl → D
 | some q=>.tup [pD q,Bo true]
 | none=>.tup [pD p,Bo false]
theorem rsD_ite {p q : Pl} {c : Prop} [Decidable c] : rsD p (if c then some q else none) = if c then .tup [pD q,Bo true] else .tup [pD p,Bo false]:=by
 split <;> rfl
section
variable {ws : List Int} (hw : wsOk ws)
include hw
theorem rf_ok {e : E} {k : Pl} {d : Nat} {w : Int} (hq : Wf ws k d w) (he : eOk e w 8) (hd : d + 1 ≤ 8) (r : Int) : Does Tryz.prog 141 [] [pD (.mk 2 0 [e] [] [k]),I r,intsD ws] (rsD (.mk 2 0 [e] [] [k]) (ruP ws r (.mk 2 0 [e] [] [k]))) []:=by
 by_cases h1 : r = 1
 ·subst h1
  rw [show ruP ws 1 (.mk 2 0 [e] [] [k]) = ru1 (.mk 2 0 [e] [] [k]) from rfl]
  by_cases hk : k.k = 2
  ·obtain ⟨e',x,f,rfl,rfl,h1,h2⟩:=wf_2 hq hk
   rw [show ru1 (.mk 2 0 [e] [] [.mk 2 0 [e'] [] [x]]) = some (.mk 2 0 [.mk 8 0 ⟨false,0⟩ [e',e]] [] [x]) from if_pos ⟨rfl,rfl⟩]
   exact rf1 hw h1 h2 (by omega)
  ·rw [show ru1 (.mk 2 0 [e] [] [k]) = none from if_neg (fun h=>hk h.2)]
   exact rf_no hw hq (by omega) 1 (by omega) (by omega) (by omega) (by omega) (by omega) (by omega) (by omega) (by omega)
 by_cases h2 : r = 2
 ·subst h2
  rw [show ruP ws 2 (.mk 2 0 [e] [] [k]) = ru2 (.mk 2 0 [e] [] [k]) from rfl]
  by_cases hk : e.k = 8
  ·obtain ⟨a,b,hks⟩ : ∃ a b,e.ks = [a,b]:=by
    rcases eOk_kids he with ⟨h3,_⟩ | ⟨h3,_⟩ | ⟨_,a,b,hks,_,_⟩
    ·omega
    ·omega
    ·exact ⟨a,b,hks⟩
   obtain ⟨ek,ec,ev',eks⟩:=e
   simp only [E.k_mk,E.ks_mk] at hk hks
   subst hk hks
   rw [show ru2 (.mk 2 0 [.mk 8 ec ev' [a,b]] [] [k]) = some (.mk 2 0 [b] [] [.mk 2 0 [a] [] [k]]) from if_pos ⟨rfl,rfl⟩]
   exact rf2 hw hq (by omega)
  ·rw [show ru2 (.mk 2 0 [e] [] [k]) = none from if_neg (fun h=>hk h.2)]
   exact rf_no hw hq (by omega) 2 (by omega) (by omega) (by omega) (by omega) (by omega) (by omega) (by omega) (by omega)
 by_cases h3 : r = 3
 ·subst h3
  rw [show ruP ws 3 (.mk 2 0 [e] [] [k]) = ru3 ws (.mk 2 0 [e] [] [k]) from rfl]
  by_cases hk : k.k = 4 ∨ k.k = 5
  ·obtain ⟨e',x,y,f,a,b,hp,rfl,rfl,hx,hy,hab,he'⟩:=wf_45 hq hk
   generalize k.k = kk at *
   subst hp
   have hwx:=(planW hw hx (by omega)).2
   have hr : ru3 ws (.mk 2 0 [e] [] [.mk kk 0 [e'] [] [x,y]]) = if lowC e a then some (.mk kk 0 [e'] [] [.mk 2 0 [e] [] [x],y]) else none:=by
    unfold ru3
    simp only [fiP,eOf_mk,kOf_mk,lOf_mk,Pl.k_mk,Pl.es_mk,hwx]
    by_cases hl : lowC e a
    ·rw [if_pos ⟨trivial,hk,hl⟩,if_pos hl]
    ·rw [if_neg (fun h=>hl h.2.2),if_neg hl]
   rw [hr,rsD_ite]
   exact rf3 hw hk hx hy hab he' he (by omega)
  ·rw [show ru3 ws (.mk 2 0 [e] [] [k]) = none from if_neg (fun h=>hk h.2.1)]
   exact rf_no hw hq (by omega) 3 (by omega) (by omega) (by omega) (by omega) (by omega) (by omega) (by omega) (by omega)
 by_cases h4 : r = 4
 ·subst h4
  rw [show ruP ws 4 (.mk 2 0 [e] [] [k]) = ru4 ws (.mk 2 0 [e] [] [k]) from rfl]
  by_cases hk : k.k = 4
  ·obtain ⟨e',x,y,f,a,b,hp,rfl,rfl,hx,hy,hab,he'⟩:=wf_45 hq (.inl hk)
   rw [hk] at hp
   subst hp
   have hwx:=(planW hw hx (by omega)).2
   have hwy:=(planW hw hy (by omega)).2
   have hr : ru4 ws (.mk 2 0 [e] [] [.mk 4 0 [e'] [] [x,y]]) = if highC e a then some (.mk 4 0 [e'] [] [x,.mk 2 0 [subE (byR a b) e] [] [y]]) else none:=by
    unfold ru4
    simp only [fiP,eOf_mk,kOf_mk,lOf_mk,Pl.k_mk,Pl.es_mk,hwx,hwy]
    by_cases hl : highC e a
    ·rw [if_pos ⟨trivial,trivial,hl⟩,if_pos hl]
    ·rw [if_neg (fun h=>hl h.2.2),if_neg hl]
   rw [hr,rsD_ite]
   exact rf4 hw hx hy hab he' he (by omega)
  ·rw [show ru4 ws (.mk 2 0 [e] [] [k]) = none from if_neg (fun h=>hk h.2.1)]
   exact rf_no hw hq (by omega) 4 (by omega) (by omega) (by omega) (by omega) (by omega) (by omega) (by omega) (by omega)
 by_cases h5 : r = 5
 ·subst h5
  rw [show ruP ws 5 (.mk 2 0 [e] [] [k]) = ru5 (.mk 2 0 [e] [] [k]) from rfl]
  by_cases hk : k.k = 4
  ·obtain ⟨e',x,y,f,a,b,hp,rfl,rfl,hx,hy,hab,he'⟩:=wf_45 hq (.inl hk)
   rw [hk] at hp
   subst hp
   rw [show ru5 (.mk 2 0 [e] [] [.mk 4 0 [e'] [] [x,y]]) = some (.mk 4 0 [.mk 8 0 ⟨false,0⟩ [e',e]] [] [x,y]) from if_pos ⟨rfl,rfl⟩]
   exact rf5 hw hx hy hab he' (by omega)
  ·rw [show ru5 (.mk 2 0 [e] [] [k]) = none from if_neg (fun h=>hk h.2)]
   exact rf_no hw hq (by omega) 5 (by omega) (by omega) (by omega) (by omega) (by omega) (by omega) (by omega) (by omega)
 by_cases h7 : r = 7
 ·subst h7
  rw [show ruP ws 7 (.mk 2 0 [e] [] [k]) = ru7 ws (.mk 2 0 [e] [] [k]) from rfl]
  by_cases hk : k.k = 5
  ·obtain ⟨e',x,y,f,a,b,hp,rfl,rfl,hx,hy,hab,he'⟩:=wf_45 hq (.inr hk)
   rw [hk] at hp
   subst hp
   have hwx:=(planW hw hx (by omega)).2
   have hwy:=(planW hw hy (by omega)).2
   have hr : ru7 ws (.mk 2 0 [e] [] [.mk 5 0 [e'] [] [x,y]]) = if rejB e a b = true then some (.mk 2 0 [e] [] [.mk 4 0 [e'] [] [x,y]]) else none:=by
    unfold ru7
    simp only [fiP,eOf_mk,kOf_mk,lOf_mk,Pl.k_mk,Pl.es_mk,Pl.ks_mk,hwx,hwy]
    by_cases hl : rejB e a b = true
    ·rw [if_pos ⟨trivial,trivial,hl⟩,if_pos hl]
    ·rw [if_neg (fun h=>hl h.2.2),if_neg hl]
   rw [hr,rsD_ite]
   exact rf7 hw hx hy hab he' he (by omega)
  ·rw [show ru7 ws (.mk 2 0 [e] [] [k]) = none from if_neg (fun h=>hk h.2.1)]
   exact rf_no hw hq (by omega) 7 (by omega) (by omega) (by omega) (by omega) (by omega) (by omega) (by omega) (by omega)
 by_cases h8 : r = 8
 ·subst h8
  rw [show ruP ws 8 (.mk 2 0 [e] [] [k]) = ru8 (.mk 2 0 [e] [] [k]) from rfl]
  by_cases hk : k.k = 6
  ·obtain ⟨x,y,f,rfl,rfl,hx,hy⟩:=wf_6 hq hk
   rw [show ru8 (.mk 2 0 [e] [] [.mk 6 0 [] [] [x,y]]) = some (.mk 6 0 [] [] [.mk 2 0 [e] [] [x],.mk 2 0 [e] [] [y]]) from if_pos ⟨rfl,rfl⟩]
   exact rf8 hw hx hy (by omega)
  ·rw [show ru8 (.mk 2 0 [e] [] [k]) = none from if_neg (fun h=>hk h.2)]
   exact rf_no hw hq (by omega) 8 (by omega) (by omega) (by omega) (by omega) (by omega) (by omega) (by omega) (by omega)
 by_cases h10 : r = 10
 ·subst h10
  rw [show ruP ws 10 (.mk 2 0 [e] [] [k]) = ru10 (.mk 2 0 [e] [] [k]) from rfl]
  by_cases hk : k.k = 3
  ·obtain ⟨es,x,f,u,rfl,rfl,rfl,hx,hl,hes⟩:=wf_3 hq hk
   rw [show ru10 (.mk 2 0 [e] [] [.mk 3 0 es [] [x]]) = some (.mk 3 0 es [] [.mk 2 0 [subE es e] [] [x]]) from if_pos ⟨rfl,rfl⟩]
   exact rf10 hw hx hl hes he (by omega)
  ·rw [show ru10 (.mk 2 0 [e] [] [k]) = none from if_neg (fun h=>hk h.2)]
   exact rf_no hw hq (by omega) 10 (by omega) (by omega) (by omega) (by omega) (by omega) (by omega) (by omega) (by omega)
 have hn : ruP ws r (.mk 2 0 [e] [] [k]) = none:=by
  unfold ruP
  simp only [h1,h2,h3,h4,h5,h7,h8,h10,if_false]
  split
  ·exact if_neg (show ¬ (2 : Int) = 4 by decide)
  split
  ·exact if_neg (fun h=>absurd (show (2 : Int) = 7 from h.1) (by decide))
  split
  ·exact if_neg (fun h=>absurd (show (2 : Int) = 3 from h.1) (by decide))
  rfl
 rw [hn]
 exact rf_no hw hq (by omega) r (by omega) (by omega) (by omega) (by omega) (by omega) (by omega) (by omega) (by omega)
theorem rw_no {p : Pl} (r : Int) (h2 : ¬ p.k = 2) (h6 : r = 6 → ¬ p.k = 4) (h9 : r = 9 → ¬ p.k = 7) (h11 : r = 11 → ¬ p.k = 3) : Does Tryz.prog 97 [] [pD p,I r,intsD ws] (.tup [pD p,Bo false]) []:=by
 by_cases g6 : r = 6
 ·subst g6
  have g:=h6 rfl
  exact Bg c_Z139 mixed (go0 trivial)
 by_cases g9 : r = 9
 ·subst g9
  have g:=h9 rfl
  exact Bg c_Z139 mixed (go0 trivial)
 by_cases g11 : r = 11
 ·subst g11
  have g:=h11 rfl
  exact Bg c_Z139 mixed (go0 trivial)
 exact Bg c_Z139 mixed (go0 trivial)
theorem rw9 {q : Pl} : Does Tryz.prog 97 [] [pD (.mk 7 0 [] [] [q]),I 9,intsD ws] (if q.k = 7 ∨ q.k = 8 then .tup [pD q,Bo true] else .tup [pD (.mk 7 0 [] [] [q]),Bo false]) []:=by
 by_cases h7 : q.k = 7
 ·rw [if_pos (.inl h7)]
  exact Bg c_Z139 mixed (go0 trivial)
 by_cases h8 : q.k = 8
 ·rw [if_pos (.inr h8)]
  exact Bg c_Z139 mixed (go0 trivial)
 rw [if_neg (by omega)]
 exact Bg c_Z139 mixed (go0 trivial)
theorem rw11 {es fs : List E} {x : Pl} {u : Int} (hl : es.length ≤ 6) (hes : ∀ e,e ∈ es → eOk e fs.length 8) (hfs : ∀ e,e ∈ fs → eOk e u 8) : Does Tryz.prog 97 [] [pD (.mk 3 0 es [] [.mk 3 0 fs [] [x]]),I 11,intsD ws] (.tup [pD (.mk 3 0 (es.map (subE fs)) [] [x]),Bo true]) []:=by
 have hml : (es.map (subE fs)).length = es.length:=List.length_map ..
 refine Bg c_Z139 mixed (go1 trivial ?_)
 refine dw_for (c:=3) (l:=fun i=>[(3,.ref 1000000 0),(6,.ref 1000001 0),(7,Bo false),(12,.own 1000002 5 i),(13,I i),(1000000,.obj [I 3,I 0,.sl 5 (es.map eD),.sl 1 [],.sl 5 [pD (.mk 3 0 fs [] [x])]]),(1000001,.obj [I 0,I 0,.nul,.nul,.nul]),(1000002,.row 5 (((es.map (subE fs)).take i).map eD))]) es.length (fun _=>True) 0 trivial ((wk_row 12 2000190 5 (by decide) (by decide) rfl rfl).trans (Wk.list [2000003,2000006,2000190] rfl rfl ?_)) (fun i hi _=>?_) (Nat.zero_le _)
 ·repeat' (first|(conv in hold _=>simp (disch:=omega) only [go_sem])|exact trivial|exact Sub.refl _|omega)
  (repeat' apply And.intro) <;> rfl
 ·have hlt:=take_len (vs:=es.map (subE fs)) (i:=i) (by omega)
  have hmt:=take_map eD (vs:=es.map (subE fs)) (i:=i) (by omega)
  rcases at_or_end hi with ⟨e,hx0,hlt1⟩ | rfl
  ·have hs:=substitute_ok fs (fun b hb=>by have:=esz_small b 8 (hfs b hb) (by decide); omega) e 8 (hes e (List.mem_of_getElem? hx0))
   have hfx : (es.map (subE fs))[i]? = some (subE fs e):=by rw [List.getElem?_map,hx0]; rfl
   have hnx:=take_next hfx
   refine go1 @hx0 ?_
   refine Uc @hx0 (hs) (go1 @hx0 ?_)
   refine ⟨hlt1,trivial,Wk.list [1000000,1000001,2000136] rfl rfl ?_⟩
   repeat' (first|(conv in hold _=>simp (disch:=omega) only [go_sem])|exact trivial|exact Sub.refl _|omega)
   rw [hmt,hnx,List.map_append,List.map_cons,List.map_nil,eD_eq (subE fs e)]
  ·have e1 : (es.map (subE fs)).take es.length = es.map (subE fs):=List.take_of_length_le (by omega)
   have e2 : ((es.map (subE fs)).map eD).take es.length = (es.map (subE fs)).map eD:=List.take_of_length_le (by rw [List.length_map,List.length_map]; exact Nat.le_refl _)
   refine go1F @e1 ?_
   refine fin_wk (wk_frzO 1000001 1000002 (by decide) (by decide) rfl (by decide) rfl ?_) ?_
   rotate_left
   (conv in hold _=>simp (disch:=omega) only [go_sem,e1,e2,hml,Nat.le_refl])
   ·refine fin_L [] ?_ ?_ rfl ?_
    repeat' (first|(conv in hold _=>simp (disch:=omega) only [go_sem])|exact trivial|exact Sub.refl _|omega)
    all_goals first
     | exact Sub.refl _
     | exact Sub.tup ⟨Sub.agg ⟨Sub.refl _,Sub.refl _,Sub.refl _,Sub.nul 1,Sub.refl _,trivial⟩,Sub.refl _,trivial⟩
   ·exact exprs_pur _
end
end Go.Proofs.YtgpdmgaemhelgaaGreat
set_option maxHeartbeats 4000000
set_option maxRecDepth 100000
set_option linter.unusedVariables false
set_option linter.unusedSimpArgs false
namespace Go.Proofs.YtgpdmgaemhelgaaGreat
open Go.RowKit
def stD (r : Int) (l : List Int) : D:=.agg [I r,intsD l]
theorem ruP_out {ws : List Int} {r : Int} {a : Pl} (h : r < 0 ∨ 12 ≤ r) : ruP ws r a = none:=by
 unfold ruP
 rw [if_neg (by omega),if_neg (by omega),if_neg (by omega),if_neg (by omega),if_neg (by omega),if_neg (by omega),if_neg (by omega),if_neg (by omega),if_neg (by omega),if_neg (by omega),if_neg (by omega)]
theorem rules_len : rulesD.length = 12:=rfl
theorem rules_pur : D.purL rulesD = true:=rfl
theorem applyTo_ok {ws : List Int} (hw : wsOk ws) {p : Pl} {w : Int} (h : Wf ws p 8 w) (r : Int) (l : List Int) (hl : l.length < 2000000) : Does Tryz.prog 51 [] [stD r l,pD p,intsD ws] (paD (apP ws r l p)) []:=by
 have h1:=rewriteRules_ok
 have h2:=partOf_ok p l hl
 have hp:=wf_loc h (by decide)
 unfold stD
 cases ha : paOf p l with
 | none=>
  have hv : paV 8 p l = none:=by
   unfold paV
   split
   ·exact ha
   ·rfl
  have ho : apP ws r l p = none:=by unfold apP; rw [ha]; rfl
  rw [ho]
  rw [hv] at h2
  unfold paD at h2 ⊢
  generalize rulesD = rs at *
  refine Bg c_Z37 mixed (go1 @intsD.eq_1 ?_)
  refine Uc trivial (h1) (go1 trivial ?_)
  refine Uc @intsD.eq_1 (h2) (go1 @intsD.eq_1 ?_)
  exact zP_sub
 | some a=>
  obtain ⟨u,ed,hd,hu,_,_⟩:=rep_wf hw l h ha
  have hl8 : l.length ≤ 8:=by omega
  have hv : paV 8 p l = some a:=by unfold paV; rw [if_pos hl8]; exact ha
  rw [hv] at h2
  unfold paD at h2
  by_cases hr : r < 0 ∨ 12 ≤ r
  ·have ho : apP ws r l p = none:=by unfold apP; rw [ha,Option.bind_some,ruP_out hr]; rfl
   have hrl:=rules_len
   rw [ho]
   unfold paD
   generalize rulesD = rs at *
   rcases hr with hr | hr
   ·refine Bg c_Z37 mixed (go1 (cj2 @intsD.eq_1 @hrl) ?_)
    refine Uc trivial (h1) (go1 trivial ?_)
    refine Uc (cj2 @intsD.eq_1 @hrl) (h2) (go1 (cj2 @intsD.eq_1 @hrl) ?_)
    exact zP_sub
   ·refine Bg c_Z37 mixed (go1 (cj2 @intsD.eq_1 @hrl) ?_)
    refine Uc trivial (h1) (go1 trivial ?_)
    refine Uc (cj2 @intsD.eq_1 @hrl) (h2) (go1 (cj2 @intsD.eq_1 @hrl) ?_)
    exact zP_sub
  ·obtain ⟨n,rfl⟩:=Int.eq_ofNat_of_zero_le (show 0 ≤ r by omega)
   obtain ⟨c1,c2,c3,hdr,h3⟩:=rule_at hw hu (by omega) (8 - l.length) (by omega) n (by omega)
   have hlev : (((8 - l.length : Nat)) : Int) = 8 - (l.length : Int):=by omega
   rw [hlev] at h3
   have hn12 : n < 12:=by omega
   have hpu:=(D.purL_iff.1 rules_pur) _ (List.mem_of_getElem? hdr)
   simp only [D.pur,D.purL,Bool.and_eq_true] at hpu
   obtain ⟨hc1,hc2,hc3,_⟩:=hpu
   have hrl:=rules_len
   have ho : apP ws n l p = (lvP ws (8 - l.length) (ruP ws n a)).bind fun q=>some (repP p l q):=by
    unfold apP lvP
    rw [ha,Option.bind_some]
    cases hq : ruP ws n a with
    | none=>rfl
    | some q=>
     obtain ⟨_,hpart⟩:=apP_part hw h ha hq
     rw [Option.bind_some,Option.bind_some]
     by_cases hz : wdV ws q (8 - l.length) = 0
     ·rw [if_pos hz,if_pos (hpart.1 hz)]; rfl
     ·rw [if_neg hz,if_neg (fun g=>hz (hpart.2 g))]; rfl
   rw [ho]
   cases hlv : lvP ws (8 - l.length) (ruP ws n a) with
   | none=>
    rw [hlv] at h3
    rw [Option.bind_none]
    unfold paD at h3 ⊢
    generalize rulesD = rs at *
    refine Bg c_Z37 mixed (go1 (cj2 @intsD.eq_1 @hrl) ?_)
    refine Uc @hrl (h1) (go1 @hrl ?_)
    refine Uc (cj7 @intsD.eq_1 @hrl @hdr @hc1 @hc2 @hc3 @Bool.and_self) (h2) (go1 (cj7 @intsD.eq_1 @hrl @hdr @hc1 @hc2 @hc3 @Bool.and_self) ?_)
    refine Uc (cj7 @intsD.eq_1 @hrl @hdr @hc1 @hc2 @hc3 @Bool.and_self) (h3) (go1 (cj7 @intsD.eq_1 @hrl @hdr @hc1 @hc2 @hc3 @Bool.and_self) ?_)
    exact zP_sub
   | some q=>
    rw [hlv] at h3
    rw [Option.bind_some]
    have h4:=replace_ok l q ha hp (by omega)
    unfold paD at h3 ⊢
    generalize repP p l q = y at *
    generalize rulesD = rs at *
    refine Bg c_Z37 mixed (go1 (cj2 @intsD.eq_1 @hrl) ?_)
    refine Uc @hrl (h1) (go1 @hrl ?_)
    refine Uc (cj7 @intsD.eq_1 @hrl @hdr @hc1 @hc2 @hc3 @Bool.and_self) (h2) (go1 (cj7 @intsD.eq_1 @hrl @hdr @hc1 @hc2 @hc3 @Bool.and_self) ?_)
    refine Uc (cj7 @intsD.eq_1 @hrl @hdr @hc1 @hc2 @hc3 @Bool.and_self) (h3) (go1 (cj7 @intsD.eq_1 @hrl @hdr @hc1 @hc2 @hc3 @Bool.and_self) ?_)
    exact Uc @intsD.eq_1 (h4) (go0 @intsD.eq_1)
noncomputable def apO (ws : List Int) (r : Int) (l : List Int) (p : Pl) : Option Pl:=if PV ws p = 0 then none else apP ws r l p
theorem PV_wf {ws : List Int} {p : Pl} (h : PV ws p ≠ 0) : wsOk ws ∧ Wf ws p 8 (PV ws p):=by
 have hw:=PV_ok h
 rw [PV_t hw] at h ⊢
 exact ⟨hw,wf_of p 8 h⟩
theorem ApplyStep_impl (p : Pl) (hs : psz p ≤ 1048576) (ws : List Int) (hl : ws.length ≤ 1048576) (r : Int) (l : List Int) (hll : l.length < 2000000) : Does Tryz.prog 16 [] [pD p,intsD ws,stD r l] (paD (apO ws r l p)) []:=by
 obtain ⟨_,_,h1⟩:=PlanWidth_fn p hs ws hl
 unfold apO
 by_cases hz : PV ws p = 0
 ·rw [if_pos hz]
  rw [hz] at h1
  unfold paD stD
  refine Bg c_Z86 mixed (go1 @intsD.eq_1 ?_)
  refine Uc @intsD.eq_1 (h1) (go1 @intsD.eq_1 ?_)
  exact zP_sub
 ·rw [if_neg hz]
  obtain ⟨hw,hwf⟩:=PV_wf hz
  have h2:=applyTo_ok hw hwf r l hll
  have hne : (PV ws p == 0) = false:=beq_eq_false_iff_ne.2 hz
  generalize PV ws p = w at *
  unfold stD at h2 ⊢
  cases ho : apP ws r l p with
  | none=>
   rw [ho] at h2
   unfold paD at h2 ⊢
   refine Bg c_Z86 mixed (go1 @intsD.eq_1 ?_)
   refine Uc (cj2 @intsD.eq_1 @hne) (h1) (go1 (cj2 @intsD.eq_1 @hne) ?_)
   refine Uc trivial (h2) (go1 trivial ?_)
   exact zP_sub
  | some x=>
   have hx:=wf_size (apP_some hw hwf ho).1
   rw [pw_8] at hx
   have h3:=clonePlan_ok x (by omega)
   rw [ho] at h2
   unfold paD at h2 ⊢
   refine Bg c_Z86 mixed (go1 @intsD.eq_1 ?_)
   refine Uc (cj2 @intsD.eq_1 @hne) (h1) (go1 (cj2 @intsD.eq_1 @hne) ?_)
   refine Uc trivial (h2) (go1 trivial ?_)
   exact Uc trivial (h3) (go0 trivial)
end Go.Proofs.YtgpdmgaemhelgaaGreat
