/-
  The program's rules of rewriting. No condition.
-/
import Derived.Test.YtgpdmgaemhelgaaGreatKSDca
import Derived.Test.YtgpdmgaemhelgaaGreatKSDcf
import Derived.Test.YtgpdmgaemhelgaaGreatKSDcg
import Derived.Test.YtgpdmgaemhelgaaGreatKSVRiA
import Derived.Test.YtgpdmgaemhelgaaGreatJSVPlanE
import Derived.Test.YtgpdmgaemhelgaaGreatJSVPaD
import Derived.Test.YtgpdmgaemhelgaaGreatJSVCond
import Derived.Test.YtgpdmgaemhelgaaGreatJSVPb
import Derived.Test.YtgpdmgaemhelgaaGreatJSVYld
set_option maxHeartbeats 4000000
set_option maxRecDepth 100000
set_option linter.unusedVariables false
set_option linter.unusedSimpArgs false
set_option linter.unusedSectionVars false
namespace Go.Proofs.YtgpdmgaemhelgaaGreat
open Go.RowKit
section
variable {ws : List Int} (hw : wsOk ws) {e : E} {w : Int} {d : Nat}
include hw
theorem i1 {e' : E} {x : Pl} : Does Tryz.prog 122 [] [pD (.mk 2 0 [e] [] [.mk 2 0 [e'] [] [x]]),pD (.mk 2 0 [e'] [] [x]),intsD ws] (.tup [pD (.mk 2 0 [.mk 8 0 ⟨false,0⟩ [e',e]] [] [x]),Bo true]) []:=by
 have h1:=bothTrue_ok e' e
 have h2:=filterI_ok (.mk 8 0 ⟨false,0⟩ [e',e]) x
 refine Bg c_Z40 mixed (go1 trivial ?_)
 refine Uc trivial (h1) (go1 trivial ?_)
 exact Uc trivial (h2) (go0 trivial)
theorem i2t {k : Pl} {c : Int} {v : V} {a b : E} : Does Tryz.prog 123 [] [pD (.mk 2 0 [.mk 8 c v [a,b]] [] [k]),pD k,intsD ws] (.tup [pD (.mk 2 0 [b] [] [.mk 2 0 [a] [] [k]]),Bo true]) []:=by
 have h1:=filterI_ok a k
 have h2:=filterI_ok b (.mk 2 0 [a] [] [k])
 refine Bg c_Z58 mixed (go1 trivial ?_)
 refine Uc trivial (h1) (go1 trivial ?_)
 exact Uc trivial (h2) (go0 trivial)
theorem i2f {k : Pl} (h : ¬ e.k = 8) : Does Tryz.prog 123 [] [pD (.mk 2 0 [e] [] [k]),pD k,intsD ws] (.tup [pD zP,Bo false]) []:=by
 refine Bg c_Z58 mixed (go1 trivial ?_)
 exact zP_sub
theorem i3 {kk : Int} {e' : E} {x y : Pl} {a b : Int} (hkk : kk = 4 ∨ kk = 5) (hx : Wf ws x d a) (hy : Wf ws y d b) (hab : a + b ≤ 6) (he : eOk e (a + b) 8) (hd : d ≤ 8) : Does Tryz.prog 124 [] [pD (.mk 2 0 [e] [] [.mk kk 0 [e'] [] [x,y]]),pD (.mk kk 0 [e'] [] [x,y]),intsD ws] (if lowC e a then .tup [pD (.mk kk 0 [e'] [] [.mk 2 0 [e] [] [x],y]),Bo true] else .tup [pD zP,Bo false]) []:=by
 have ha:=(wf_to hw hx).2
 have hkw:=kidWidths_ok (k:=kk) (t:=0) (es:=[e']) (cs:=[]) (planI hw hx hd).1 (planI hw hy hd).1
 have hco:=ColumnsOf_impl e (eOk_widen hab e 8 he)
 have hcn:=containsM_ok (f:=163) (by kernel_rfl) (t:=a) (q:=fun c=>decide (a ≤ (c : Int))) (marked (occ e) 6) (by have:=marked_len (occ e) 6; omega) (fun c hc=>left1_ok c a (mem_marked.1 hc).1 (by omega))
 have hf:=filterI_ok e x
 unfold colsL at hco
 by_cases hl : lowC e a
 ·rw [if_pos hl]
  have hany : (marked (occ e) 6).any (fun c=>decide (a ≤ (c : Int))) = false:=by
   rw [List.any_eq_false]
   intro c hc
   have:=hl c hc
   simp
   omega
  rw [hany] at hcn
  generalize (marked (occ e) 6).map (fun j : Nat=>I (j : Int)) = ds at *
  refine Bg c_Z115 mixed (go1 trivial ?_)
  refine Uc trivial (hkw) (go1 trivial ?_)
  refine Uc trivial (hco) (go1 trivial ?_)
  refine UcR [2000009] trivial (hcn) (go1 trivial ?_)
  exact Uc trivial (hf) (go0 trivial)
 ·rw [if_neg hl]
  have hany : (marked (occ e) 6).any (fun c=>decide (a ≤ (c : Int))) = true:=by
   rw [List.any_eq_true]
   refine Classical.byContradiction fun hn=>hl fun c hc=>?_
   refine Classical.byContradiction fun h2=>hn ⟨c,hc,?_⟩
   simp
   omega
  rw [hany] at hcn
  generalize (marked (occ e) 6).map (fun j : Nat=>I (j : Int)) = ds at *
  refine Bg c_Z115 mixed (go1 trivial ?_)
  refine Uc trivial (hkw) (go1 trivial ?_)
  refine Uc trivial (hco) (go1 trivial ?_)
  refine UcR [2000009] trivial (hcn) (go1 trivial ?_)
  exact zP_sub
theorem i4 {e' : E} {x y : Pl} {a b : Int} (hx : Wf ws x d a) (hy : Wf ws y d b) (hab : a + b ≤ 6) (he : eOk e (a + b) 8) (hd : d ≤ 8) : Does Tryz.prog 125 [] [pD (.mk 2 0 [e] [] [.mk 4 0 [e'] [] [x,y]]),pD (.mk 4 0 [e'] [] [x,y]),intsD ws] (if highC e a then .tup [pD (.mk 4 0 [e'] [] [x,.mk 2 0 [subE (byR a b) e] [] [y]]),Bo true] else .tup [pD zP,Bo false]) []:=by
 have ha:=(wf_to hw hx).2
 have hkw:=kidWidths_ok (k:=4) (t:=0) (es:=[e']) (cs:=[]) (planI hw hx hd).1 (planI hw hy hd).1
 have hco:=ColumnsOf_impl e (eOk_widen hab e 8 he)
 have hcn:=containsM_ok (f:=164) (by kernel_rfl) (t:=a) (q:=fun c=>decide ((c : Int) < a)) (marked (occ e) 6) (by have:=marked_len (occ e) 6; omega) (fun c hc=>right1_ok c a (mem_marked.1 hc).1 (by omega))
 unfold colsL at hco
 by_cases hl : highC e a
 ·rw [if_pos hl]
  have hany : (marked (occ e) 6).any (fun c=>decide ((c : Int) < a)) = false:=by
   rw [List.any_eq_false]
   intro c hc
   have:=hl c hc
   simp
   omega
  rw [hany] at hcn
  have hmv:=moveR_ok (a:=a) (by omega) hab he
  rw [← sub_right (by omega) hab he hl] at hmv
  have hf:=filterI_ok (subE (byR a b) e) y
  generalize (marked (occ e) 6).map (fun j : Nat=>I (j : Int)) = ds at *
  refine Bg c_Z94 mixed (go1 trivial ?_)
  refine Uc trivial (hkw) (go1 trivial ?_)
  refine Uc trivial (hco) (go1 trivial ?_)
  refine UcR [2000009] trivial (hcn) (go1 trivial ?_)
  refine UcR [2000009] trivial (hmv) (go1 trivial ?_)
  exact Uc trivial (hf) (go0 trivial)
 ·rw [if_neg hl]
  have hany : (marked (occ e) 6).any (fun c=>decide ((c : Int) < a)) = true:=by
   rw [List.any_eq_true]
   refine Classical.byContradiction fun hn=>hl fun c hc=>?_
   refine Classical.byContradiction fun h2=>hn ⟨c,hc,?_⟩
   simp
   omega
  rw [hany] at hcn
  generalize (marked (occ e) 6).map (fun j : Nat=>I (j : Int)) = ds at *
  refine Bg c_Z94 mixed (go1 trivial ?_)
  refine Uc trivial (hkw) (go1 trivial ?_)
  refine Uc trivial (hco) (go1 trivial ?_)
  refine UcR [2000009] trivial (hcn) (go1 trivial ?_)
  exact zP_sub
theorem i5 {e' : E} {x y : Pl} : Does Tryz.prog 126 [] [pD (.mk 2 0 [e] [] [.mk 4 0 [e'] [] [x,y]]),pD (.mk 4 0 [e'] [] [x,y]),intsD ws] (.tup [pD (.mk 4 0 [.mk 8 0 ⟨false,0⟩ [e',e]] [] [x,y]),Bo true]) []:=by
 have h1:=bothTrue_ok e' e
 refine Bg c_Z23 mixed (go1 trivial ?_)
 exact Uc trivial (h1) (go0 trivial)
theorem i6 {x y : Pl} {a b : Int} (hx : Wf ws x d a) (hy : Wf ws y d b) (hab : a + b ≤ 6) (he : eOk e (a + b) 8) (hd : d ≤ 8) : Does Tryz.prog 127 [] [pD (.mk 4 0 [e] [] [x,y]),pD x,intsD ws] (.tup [pD (.mk 3 0 (byB a b) [] [.mk 4 0 [subE (byB a b) e] [] [y,x]]),Bo true]) []:=by
 have ha:=(wf_to hw hx).2
 have hb:=(wf_to hw hy).2
 have hkw:=kidWidths_ok (k:=4) (t:=0) (es:=[e]) (cs:=[]) (planI hw hx hd).1 (planI hw hy hd).1
 have hmv:=moveB_ok (a:=a) (b:=b) (by omega) (by omega) hab he
 rw [← sub_both (by omega) (by omega) he] at hmv
 have hbl : (byB a b).length = (a + b).toNat:=by unfold byB; rw [List.length_append,colF_len,colF_len]; omega
 generalize subE (byB a b) e = e2 at *
 refine Bg c_Z53 mixed (go1 trivial ?_)
 refine Uc trivial (hkw) (go1 trivial ?_)
 refine dw_for (c:=7) (l:=fun i=>[(3,.ref 1000000 0),(4,.ref 1000001 0),(6,.ref 1000002 0),(7,Bo false),(10,.ref 1000005 0),(11,.own 1000006 5 i),(23,I (a + b)),(24,I i),(1000000,.obj [I 4,I 0,.sl 5 [eD e],.sl 1 [],.sl 5 [pD x,pD y]]),(1000001,.obj [I x.k,I x.t,.sl 5 (x.es.map eD),intsD x.cs,.sl 5 (x.ks.map pD)]),(1000002,.obj [I 0,I 0,.nul,.nul,.nul]),(1000003,.obj [I a]),(1000004,.obj [I b]),(1000005,.obj [.fn 167 [.ref 1000004 0,.ref 1000003 0]]),(1000006,.row 5 (((byB a b).take i).map eD))]) (a + b).toNat (fun _=>True) 0 trivial ((wk_row 11 2000190 5 (by decide) (by decide) rfl rfl).trans (Wk.list [2000003,2000004,2000006,2000008,2000009,2000010,2000190] rfl rfl ?_)) (fun i hi _=>?_) (Nat.zero_le _)
 ·repeat' (first|(conv in hold _=>simp (disch:=omega) only [go_sem])|exact trivial|exact Sub.refl _|omega)
  (repeat' apply And.intro) <;> rfl
 ·have hlt:=take_len (vs:=byB a b) (i:=i) (by omega)
  have hmt:=take_map eD (vs:=byB a b) (i:=i) (by omega)
  by_cases hil : i < (a + b).toNat
  ·have hvs:=visit2_ok (a:=a) (b:=b) (.mk 1 (i : Int) ⟨false,0⟩ []) (by omega) (by omega) (fun _=>by show 0 ≤ (i : Int) ∧ (i : Int) < 100; omega)
   have hmve : mvE (fun c=>(c + b).tmod (a + b)) (.mk 1 (i : Int) ⟨false,0⟩ []) = .mk 1 (if (i : Int) < a then (i : Int) + b else (i : Int) - a) ⟨false,0⟩ []:=by
    rw [mvE_col rfl]
    simp only [E.k_mk,E.c_mk,E.v_mk,E.ks_mk]
    rw [mod_mv (by omega) (by omega) (by omega) (by omega)]
   rw [hmve] at hvs
   have hvs:=hvs.weak (es:=[.agg [.fn 167 [.ref 1000000 0,.ref 1000001 0]],.agg [I 1,I i,Bo false,I 0,.nul]]) ⟨Sub.refl _,by rw [eD_eC]; exact Sub.agg (leafC i),trivial⟩ (Sub.refl _)
   have hget:=byB_get (a:=a) (b:=b) (c:=i) (by omega) (by omega)
   generalize (E.mk 1 (if (i : Int) < a then (i : Int) + b else (i : Int) - a) ⟨false,0⟩ []) = ei at *
   have hnx:=take_next hget
   refine go1 trivial ?_
   refine UcR [1000004,1000003] trivial (hvs) (go1 trivial ?_)
   refine ⟨hil,trivial,Wk.list [1000000,1000001,1000002,1000003,1000004,1000005,2000033] rfl rfl ?_⟩
   repeat' (first|(conv in hold _=>simp (disch:=omega) only [go_sem])|exact trivial|exact Sub.refl _|omega)
   rw [hmt,hnx,List.map_append,List.map_cons,List.map_nil,eD_eq ei]
  ·obtain rfl : i = (a + b).toNat:=by omega
   have e1 : (byB a b).take (a + b).toNat = byB a b:=List.take_of_length_le (by omega)
   have e2' : ((byB a b).map eD).take (a + b).toNat = (byB a b).map eD:=List.take_of_length_le (by rw [List.length_map]; omega)
   have hl3 : ((byB a b).map eD).length = (a + b).toNat:=by rw [List.length_map,hbl]
   rw [e1]
   refine go1 trivial ?_
   refine UcR [1000004,1000003] trivial (hmv) (go1F trivial ?_)
   refine fin_wk (wk_frzO 1000002 1000006 (by decide) (by decide) rfl (by decide) rfl ?_) ?_
   rotate_left
   (conv in hold _=>simp (disch:=omega) only [go_sem,e2',hl3,Nat.le_refl])
   ·refine fin_L [] ?_ ?_ rfl ?_
    repeat' (first|(conv in hold _=>simp (disch:=omega) only [go_sem])|exact trivial|exact Sub.refl _|omega)
    all_goals first
     | exact Sub.refl _
     | exact Sub.tup ⟨Sub.agg ⟨Sub.refl _,Sub.refl _,Sub.refl _,Sub.nul 1,Sub.refl _,trivial⟩,Sub.refl _,trivial⟩
   ·exact exprs_pur _
theorem i7 {e' : E} {x y : Pl} {a b : Int} (hx : Wf ws x d a) (hy : Wf ws y d b) (hab : a + b ≤ 6) (he : eOk e (a + b) 8) (hd : d ≤ 8) : Does Tryz.prog 128 [] [pD (.mk 2 0 [e] [] [.mk 5 0 [e'] [] [x,y]]),pD (.mk 5 0 [e'] [] [x,y]),intsD ws] (if rejB e a b = true then .tup [pD (.mk 2 0 [e] [] [.mk 4 0 [e'] [] [x,y]]),Bo true] else .tup [pD zP,Bo false]) []:=by
 have ha:=(wf_to hw hx).2
 have hb:=(wf_to hw hy).2
 have hkw:=kidWidths_ok (k:=5) (t:=0) (es:=[e']) (cs:=[]) (planI hw hx hd).1 (planI hw hy hd).1
 have hnl : (nulC a b).length = b.toNat:=by unfold nulC; rw [List.length_map,List.length_range]
 have hget : ∀ i : Nat,i < b.toNat → (nulC a b)[i]? = some (a + (i : Int)):=fun i hi=>by
  unfold nulC
  rw [List.getElem?_map,List.getElem?_range hi]
  rfl
 have hn : (((a + b).toNat : Nat) : Int) = a + b:=by omega
 have hre:=RejectsNulls_I (e:=e) (m:=(a + b).toNat) (by omega) (by rw [hn]; exact he) (nulC a b) (by omega)
 rw [hn] at hre
 have hrj : rejB e a b = (intBit .and .i64 (oc e (stL (nulC a b) (a + b).toNat)) 2 == 0):=rfl
 rw [← hrj] at hre
 have hf:=filterI_ok e (.mk 4 0 [e'] [] [x,y])
 suffices hh : ∀ (rb : Bool) (rr : D),rejB e a b = rb → (rb = true → rr = .tup [pD (.mk 2 0 [e] [] [.mk 4 0 [e'] [] [x,y]]),Bo true]) → (rb = false → rr = .tup [pD zP,Bo false]) → Does Tryz.prog 128 [] [pD (.mk 2 0 [e] [] [.mk 5 0 [e'] [] [x,y]]),pD (.mk 5 0 [e'] [] [x,y]),intsD ws] rr [] from
  hh _ _ rfl (fun h=>if_pos h) (fun h=>if_neg (by rw [h]; decide))
 intro rb rr hrb ht hff
 rw [hrb] at hre
 refine Bg c_Z41 mixed (go1 trivial ?_)
 refine Uc trivial (hkw) (go1 trivial ?_)
 refine dw_for (c:=4) (l:=fun i=>[(3,.ref 1000000 0),(4,.ref 1000001 0),(6,.ref 1000002 0),(7,Bo false),(8,I a),(9,I b),(10,.own 1000003 1 i),(18,I b),(19,I i),(1000000,.obj [I 2,I 0,.sl 5 [eD e],.sl 1 [],.sl 5 [pD (.mk 5 0 [e'] [] [x,y])]]),(1000001,.obj [I 5,I 0,.sl 5 [eD e'],.sl 1 [],.sl 5 [pD x,pD y]]),(1000002,.obj [I 0,I 0,.nul,.nul,.nul]),(1000003,.row 1 (((nulC a b).take i).map I))]) b.toNat (fun _=>True) 0 trivial ((wk_row 10 2000190 1 (by decide) (by decide) rfl rfl).trans (Wk.list [2000003,2000004,2000006,2000190] rfl rfl ?_)) (fun i hi _=>?_) (Nat.zero_le _)
 ·repeat' (first|(conv in hold _=>simp (disch:=omega) only [go_sem])|exact trivial|exact Sub.refl _|omega)
  (repeat' apply And.intro) <;> rfl
 ·have htl : ((nulC a b).take i).length = i:=by rw [List.length_take]; omega
  have hmk:=take_map I (vs:=nulC a b) (i:=i) (by omega)
  by_cases hil : i < b.toNat
  ·have hnx:=take_next (hget i hil)
   refine go1 trivial ?_
   refine ⟨hil,trivial,Wk.list [1000000,1000001,1000002,2000027] rfl rfl ?_⟩
   repeat' (first|(conv in hold _=>simp (disch:=omega) only [go_sem,List.length_map,htl])|exact trivial|exact Sub.refl _|omega)
   (repeat' apply And.intro) <;> first | rfl | (rw [hmk,hnx,List.map_append]; rfl)
  ·obtain rfl : i = b.toNat:=by omega
   have e1 : (nulC a b).take b.toNat = nulC a b:=List.take_of_length_le (by omega)
   have e2 : ((nulC a b).map I).take b.toNat = (nulC a b).map I:=List.take_of_length_le (by rw [List.length_map]; omega)
   have hl3 : ((nulC a b).map I).length = b.toNat:=by rw [List.length_map,hnl]
   rw [e1]
   refine go1C trivial ?_
   refine s_pre (pre_frz (t:=36) (g:=1000003) (by decide) (by decide) rfl ?_) ?_
   rotate_left
   refine go1 (cj2 @e2 @hl3) ?_
   ·cases rb with
    | true=>
     rw [ht rfl]
     refine Uc trivial (hre) (go1 trivial ?_)
     exact Uc trivial (hf) (go0 trivial)
    | false=>
     rw [hff rfl]
     refine Uc trivial (hre) (go1 trivial ?_)
     exact zP_sub
   ·exact ints_pur _
theorem i8 {x y : Pl} : Does Tryz.prog 129 [] [pD (.mk 2 0 [e] [] [.mk 6 0 [] [] [x,y]]),pD (.mk 6 0 [] [] [x,y]),intsD ws] (.tup [pD (.mk 6 0 [] [] [.mk 2 0 [e] [] [x],.mk 2 0 [e] [] [y]]),Bo true]) []:=by
 have h1:=filterI_ok e x
 have h2:=filterI_ok e y
 refine Bg c_Z54 mixed (go1 trivial ?_)
 refine Uc trivial (h1) (go1 trivial ?_)
 exact Uc trivial (h2) (go0 trivial)
theorem i9 {p k : Pl} : Does Tryz.prog 130 [] [pD p,pD k,intsD ws] (.tup [pD k,Bo true]) []:=by
 exact Bg c_Z38 mixed (go0 trivial)
theorem i10 {es : List E} {x : Pl} {u : Int} (hx : Wf ws x d u) (hl : 1 ≤ es.length ∧ es.length ≤ 6) (hes : ∀ e,e ∈ es → eOk e u 8) (he : eOk e es.length 8) (hd : d ≤ 8) :
  Does Tryz.prog 131 [] [pD (.mk 2 0 [e] [] [.mk 3 0 es [] [x]]),pD (.mk 3 0 es [] [x]),intsD ws] (if eOk (subE es e) u 8 then .tup [pD (.mk 3 0 es [] [.mk 2 0 [subE es e] [] [x]]),Bo true] else .tup [pD zP,Bo false]) []:=by
 have hu:=(wf_to hw hx).2
 have hpw:=(planI hw hx hd).1
 obtain ⟨s1,s2⟩:=Substitute_impl es u e (by omega)
 have hf:=filterI_ok (subE es e) x
 by_cases ho : eOk (subE es e) u 8
 ·rw [if_pos ho]
  have h1:=s1 ⟨⟨by omega,he⟩,fun b hb=>⟨hu,hes b hb⟩,hu,ho⟩
  refine Bg c_Z28 mixed (go1 trivial ?_)
  refine Uc trivial (hpw) (go1 trivial ?_)
  refine Uc trivial (h1) (go1 trivial ?_)
  exact Uc trivial (hf) (go0 trivial)
 ·rw [if_neg ho]
  have h1:=s2 (fun h=>ho h.2.2.2)
  unfold zR at h1
  refine Bg c_Z28 mixed (go1 trivial ?_)
  refine Uc trivial (hpw) (go1 trivial ?_)
  refine Uc trivial (h1) (go1 trivial ?_)
  exact zP_sub
theorem i11 {es fs : List E} {x : Pl} {u : Int} (hx : Wf ws x d u) (hl : 1 ≤ es.length ∧ es.length ≤ 6) (hes : ∀ e,e ∈ es → eOk e fs.length 8) (hl2 : 1 ≤ fs.length ∧ fs.length ≤ 6) (hfs : ∀ e,e ∈ fs → eOk e u 8) (hd : d ≤ 8) (rr : D) (ht : (∀ e,e ∈ es → eOk (subE fs e) u 8) → rr = .tup [pD (.mk 3 0 (es.map (subE fs)) [] [x]),Bo true]) (hff : (¬ ∀ e,e ∈ es → eOk (subE fs e) u 8) → rr = .tup [pD zP,Bo false]) :
  Does Tryz.prog 132 [] [pD (.mk 3 0 es [] [.mk 3 0 fs [] [x]]),pD (.mk 3 0 fs [] [x]),intsD ws] rr []:=by
 have hu:=(wf_to hw hx).2
 have hpw:=(planI hw hx hd).1
 have hml : (es.map (subE fs)).length = es.length:=List.length_map ..
 refine Bg c_Z29 mixed (go1 trivial ?_)
 refine Uc trivial (hpw) (go1 trivial ?_)
 refine dw_for (c:=4) (l:=fun i=>[(3,.ref 1000000 0),(4,.ref 1000001 0),(6,.ref 1000002 0),(7,Bo false),(8,I u),(9,.own 1000003 5 i),(21,.sl 5 (es.map eD)),(22,I es.length),(23,I i),(1000000,.obj [I 3,I 0,.sl 5 (es.map eD),.sl 1 [],.sl 5 [pD (.mk 3 0 fs [] [x])]]),(1000001,.obj [I 3,I 0,.sl 5 (fs.map eD),.sl 1 [],.sl 5 [pD x]]),(1000002,.obj [I 0,I 0,.nul,.nul,.nul]),(1000003,.row 5 (((es.map (subE fs)).take i).map eD))]) es.length (fun i=>∀ (j : Nat) (e : E),j < i → es[j]? = some e → eOk (subE fs e) u 8) 0 (fun j e hj=>by omega) ((wk_row 9 2000190 5 (by decide) (by decide) rfl rfl).trans (Wk.list [2000003,2000004,2000006,2000190] rfl rfl ?_)) (fun i hi hJ=>?_) (Nat.zero_le _)
 ·repeat' (first|(conv in hold _=>simp (disch:=omega) only [go_sem])|exact trivial|exact Sub.refl _|omega)
  (repeat' apply And.intro) <;> rfl
 ·have hlt:=take_len (vs:=es.map (subE fs)) (i:=i) (by omega)
  have hmt:=take_map eD (vs:=es.map (subE fs)) (i:=i) (by omega)
  rcases at_or_end hi with ⟨e,hx0,hlt1⟩ | rfl
  ·obtain ⟨s1,s2⟩:=Substitute_impl fs u e (by omega)
   by_cases ho : eOk (subE fs e) u 8
   ·have h1:=s1 ⟨⟨by omega,hes e (List.mem_of_getElem? hx0)⟩,fun b hb=>⟨hu,hfs b hb⟩,hu,ho⟩
    have hfx : (es.map (subE fs))[i]? = some (subE fs e):=by rw [List.getElem?_map,hx0]; rfl
    have hnx:=take_next hfx
    refine go1 @hx0 ?_
    refine Uc @hx0 (h1) (go1 @hx0 ?_)
    refine ⟨hlt1,upto_next (p:=fun e=>eOk (subE fs e) u 8) hx0 hJ ho,Wk.list [1000000,1000001,1000002,2000041] rfl rfl ?_⟩
    repeat' (first|(conv in hold _=>simp (disch:=omega) only [go_sem])|exact trivial|exact Sub.refl _|omega)
    rw [hmt,hnx,List.map_append,List.map_cons,List.map_nil,eD_eq (subE fs e)]
   ·have h1:=s2 (fun h=>ho h.2.2.2)
    unfold zR at h1
    rw [hff (fun h=>ho (h e (List.mem_of_getElem? hx0)))]
    refine go1 @hx0 ?_
    refine Uc @hx0 (h1) (go1 @hx0 ?_)
    exact zP_sub
  ·have hall:=upto_all (p:=fun e=>eOk (subE fs e) u 8) hJ
   rw [ht hall]
   have e1 : (es.map (subE fs)).take es.length = es.map (subE fs):=List.take_of_length_le (by omega)
   have e2 : ((es.map (subE fs)).map eD).take es.length = (es.map (subE fs)).map eD:=List.take_of_length_le (by rw [List.length_map,List.length_map]; exact Nat.le_refl _)
   have hl3 : ((es.map (subE fs)).map eD).length = es.length:=by rw [List.length_map,hml]
   rw [e1]
   refine go1F trivial ?_
   refine fin_wk (wk_frzO 1000002 1000003 (by decide) (by decide) rfl (by decide) rfl ?_) ?_
   rotate_left
   (conv in hold _=>simp (disch:=omega) only [go_sem,e2,hl3,Nat.le_refl])
   ·refine fin_L [] ?_ ?_ rfl ?_
    all_goals exact Ag trivial
   ·exact exprs_pur _
end
end Go.Proofs.YtgpdmgaemhelgaaGreat
