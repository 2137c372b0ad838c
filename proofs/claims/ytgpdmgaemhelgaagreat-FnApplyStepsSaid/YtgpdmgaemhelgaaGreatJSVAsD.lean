/-
  Steps applied one after the other, by both packages. No condition.
-/
import Derived.Test.YtgpdmgaemhelgaaGreatKSDca
import Derived.Test.YtgpdmgaemhelgaaGreatKSDch
import Derived.Test.YtgpdmgaemhelgaaGreatKSVStS
import Derived.Test.YtgpdmgaemhelgaaGreatJSVCall
import Derived.Test.YtgpdmgaemhelgaaGreatKSDci
import Derived.Test.YtgpdmgaemhelgaaGreatJSVRsB
set_option maxHeartbeats 4000000
set_option maxRecDepth 100000
set_option linter.unusedVariables false
set_option linter.unusedSimpArgs false
namespace Go.Proofs.YtgpdmgaemhelgaaGreat
open Go.RowKit
noncomputable def asF (ws : List Int) (o : Option Pl) (S : List (Int × List Int)) : Option Pl:=S.foldl (fun o s=>o.bind fun x=>apP ws s.1 s.2 x) o
noncomputable def asP (ws : List Int) (S : List (Int × List Int)) (p : Pl) : Option Pl:=asF ws (some p) S
theorem asF_none (ws : List Int) : ∀ S : List (Int × List Int),asF ws none S = none
 | []=>rfl
 | s :: S=>asF_none ws S
theorem asF_append (ws : List Int) (o : Option Pl) (S T : List (Int × List Int)) : asF ws o (S ++ T) = asF ws (asF ws o S) T:=List.foldl_append
theorem asP_split (ws : List Int) (S T : List (Int × List Int)) (p : Pl) : asP ws (S ++ T) p = (asP ws S p).bind fun x=>asP ws T x:=by
 unfold asP
 rw [asF_append]
 cases asF ws (some p) S with
 | none=>exact asF_none ws T
 | some x=>rfl
theorem asP_next {ws : List Int} {S : List (Int × List Int)} {p : Pl} {i : Nat} {s : Int × List Int} (h : S[i]? = some s) : asP ws (S.take (i + 1)) p = (asP ws (S.take i) p).bind fun x=>apP ws s.1 s.2 x:=by
 rw [take_next h,asP_split]
 rfl
theorem asP_stop {ws : List Int} {S : List (Int × List Int)} {p : Pl} (i : Nat) (h : asP ws (S.take i) p = none) : asP ws S p = none:=by
 have:=asP_split ws (S.take i) (S.drop i) p
 rw [List.take_append_drop,h] at this
 exact this
theorem asP_wf {ws : List Int} (hw : wsOk ws) : ∀ (S : List (Int × List Int)) {p x : Pl} {w : Int},Wf ws p 8 w → asP ws S p = some x → Wf ws x 8 w
 | [],p,x,w,h,hx=>by
  obtain rfl : p = x:=Option.some.inj hx
  exact h
 | s :: S,p,x,w,h,hx=>by
  have h1:=asP_split ws [s] S p
  rw [List.singleton_append,hx] at h1
  cases h2 : asP ws [s] p with
  | none=>rw [h2] at h1; cases h1
  | some y=>
   rw [h2] at h1
   exact asP_wf hw S (apP_some hw h (show apP ws s.1 s.2 p = some y from h2)).1 h1.symm
noncomputable def asO (ws : List Int) (S : List (Int × List Int)) (p : Pl) : Option Pl:=if PV ws p = 0 ∨ 40 < S.length then none else asP ws S p
noncomputable def atS (ws : List Int) (S : List (Int × List Int)) (p : Pl) (i : Nat) : Pl:=(asP ws (S.take i) p).getD zP
theorem atS_0 (ws : List Int) (S : List (Int × List Int)) (p : Pl) : atS ws S p 0 = p:=rfl
theorem atS_next {ws : List Int} {S : List (Int × List Int)} {p x : Pl} {i : Nat} {s : Int × List Int} (h : S[i]? = some s) (hJ : asP ws (S.take i) p = some (atS ws S p i)) (hx : apP ws s.1 s.2 (atS ws S p i) = some x) : asP ws (S.take (i + 1)) p = some (atS ws S p (i + 1)) ∧ atS ws S p (i + 1) = x:=by
 have h1 : asP ws (S.take (i + 1)) p = some x:=by rw [asP_next h,hJ]; exact hx
 have h2 : atS ws S p (i + 1) = x:=by unfold atS; rw [h1]; rfl
 exact ⟨by rw [h2]; exact h1,h2⟩
section
variable {ws : List Int} (hl : ws.length ≤ 1048576) {p : Pl} (hs : psz p ≤ 1048576) (S : List (Int × List Int)) (hS : ∀ s,s ∈ S → s.2.length < 2000000) (hn : S.length ≤ 1048576)
include hl hs hS hn
theorem certTo_ok : Does Tryz.prog 63 [] [.sl 2 (S.map stE),pD p,intsD ws] (paD (asO ws S p)) []:=by
 obtain ⟨_,_,h1⟩:=PlanWidth_fn p hs ws hl
 have hml : (S.map stE).length = S.length:=List.length_map ..
 unfold asO
 by_cases hz : PV ws p = 0 ∨ 40 < S.length
 ·rw [if_pos hz]
  unfold paD
  by_cases h40 : 40 < S.length
  ·refine Bg c_Z9 mixed (go1 @hml ?_)
   exact zP_sub
  ·rw [show PV ws p = 0 by omega] at h1
   refine Bg c_Z9 mixed (go1 @hml ?_)
   refine Uc trivial (h1) (go1 trivial ?_)
   exact zP_sub
 ·rw [if_neg hz]
  obtain ⟨hw,hwf⟩:=PV_wf (show PV ws p ≠ 0 by omega)
  have hne : (PV ws p == 0) = false:=beq_eq_false_iff_ne.2 (by omega)
  have h40 : S.length ≤ 40:=by omega
  generalize PV ws p = w at *
  suffices hh : ∀ rr : D,(∀ x,asP ws S p = some x → rr = .tup [pD x,Bo true]) → (asP ws S p = none → rr = .tup [pD zP,Bo false]) → Does Tryz.prog 63 [] [.sl 2 (S.map stE),pD p,intsD ws] rr [] from
   hh _ (fun x hx=>by rw [hx]; rfl) (fun hx=>by rw [hx]; rfl)
  intro rr ht hf
  refine Bg c_Z9 mixed (go1 @hml ?_)
  refine Uc (cj2 @hne @hml) (h1) (go1 (cj2 @hne @hml) ?_)
  refine dw_for (c:=2) (l:=fun i=>[(2,intsD ws),(4,.ref 1000000 0),(6,.ref 1000001 0),(7,Bo false),(22,.sl 2 (S.map stE)),(23,I S.length),(24,I i),(1000000,.obj [I (atS ws S p i).k,I (atS ws S p i).t,.sl 5 ((atS ws S p i).es.map eD),intsD (atS ws S p i).cs,.sl 5 ((atS ws S p i).ks.map pD)]),(1000001,.obj [I 0,I 0,.nul,.nul,.nul])]) S.length (fun i=>asP ws (S.take i) p = some (atS ws S p i)) 0 rfl (Wk.list [2000004,2000006] rfl rfl ?_) (fun i hi hJ=>?_) (Nat.zero_le _)
  ·repeat' (first|(conv in hold _=>simp (disch:=omega) only [go_sem,atS_0,hml])|exact trivial|exact Sub.refl _|omega)
   (repeat' apply And.intro) <;> rfl
  ·rcases at_or_end hi with ⟨s,hs0,hlt⟩ | rfl
   ·have hdat : (S.map stE)[i]? = some (.agg [I s.1,.sl 1 (s.2.map I)]):=by rw [List.getElem?_map,hs0]; rfl
    have hwi:=asP_wf hw (S.take i) hwf hJ
    have hat:=applyTo_ok hw hwi s.1 s.2 (hS s (List.mem_of_getElem? hs0))
    unfold stD intsD at hat
    cases ho : apP ws s.1 s.2 (atS ws S p i) with
    | none=>
     rw [ho] at hat
     rw [hf (asP_stop (i + 1) (by rw [asP_next hs0,hJ]; exact ho))]
     unfold paD at hat
     generalize S.map stE = ds at *
     refine go1 (cj2 @hdat @hml) ?_
     refine Uc (cj3 @hdat @hml @intsD.eq_1) (hat) (go1 (cj3 @hdat @hml @intsD.eq_1) ?_)
     exact zP_sub
    | some x=>
     rw [ho] at hat
     obtain ⟨n1,n2⟩:=atS_next hs0 hJ ho
     unfold paD at hat
     generalize S.map stE = ds at *
     refine go1 (cj2 @hdat @hml) ?_
     refine Uc (cj3 @hdat @hml @intsD.eq_1) (hat) (go1 (cj3 @hdat @hml @intsD.eq_1) ?_)
     refine ⟨hlt,n1,Wk.list [1000000,1000001] rfl rfl ?_⟩
     repeat' (first|(conv in hold _=>simp (disch:=omega) only [go_sem,n2,intsD])|exact trivial|exact Sub.refl _|omega)
   ·have e1 : S.take S.length = S:=List.take_length
    rw [e1] at hJ
    rw [ht _ hJ]
    exact go0 @hml
theorem ApplySteps_impl : Does Tryz.prog 29 [] [pD p,intsD ws,.sl 2 (S.map stE)] (paD (asO ws S p)) []:=by
 have h1:=certTo_ok hl hs S hS hn
 cases ho : asO ws S p with
 | none=>
  rw [ho] at h1
  unfold paD at h1 ⊢
  generalize S.map stE = ds at *
  refine Bg c_Z69 mixed (go1 trivial ?_)
  refine Uc trivial (h1) (go1 trivial ?_)
  exact zP_sub
 | some x=>
  have hx : psz x ≤ 457727:=by
   unfold asO at ho
   split at ho
   ·cases ho
   ·rename_i hz
    obtain ⟨hw,hwf⟩:=PV_wf (show PV ws p ≠ 0 by omega)
    have:=wf_size (asP_wf hw S hwf ho)
    rw [pw_8] at this
    exact this
  have h2:=clonePlan_ok x (by omega)
  rw [ho] at h1
  unfold paD at h1 ⊢
  generalize S.map stE = ds at *
  refine Bg c_Z69 mixed (go1 trivial ?_)
  refine Uc trivial (h1) (go1 trivial ?_)
  exact Uc trivial (h2) (go0 trivial)
theorem ApplySteps_spec : Does Tryz.prog 30 [] [pD p,intsD ws,.sl 2 (S.map stE)] (paD (asO ws S p)) []:=by
 obtain ⟨_,h1,_⟩:=PlanWidth_fn p hs ws hl
 have hml : (S.map stE).length = S.length:=List.length_map ..
 unfold asO
 by_cases hz : PV ws p = 0
 ·rw [if_pos (.inl hz)]
  rw [hz] at h1
  unfold paD
  refine Bg c_Z78 mixed (go1 trivial ?_)
  refine Uc trivial (h1) (go1 trivial ?_)
  exact zP_sub
 ·obtain ⟨hw,hwf⟩:=PV_wf hz
  have hne : (PV ws p == 0) = false:=beq_eq_false_iff_ne.2 hz
  by_cases h40 : 40 < S.length
  ·rw [if_pos (.inr h40)]
   unfold paD
   generalize PV ws p = w at *
   refine Bg c_Z78 mixed (go1 @hml ?_)
   refine Uc (cj2 @hne @hml) (h1) (go1 (cj2 @hne @hml) ?_)
   exact zP_sub
  ·rw [if_neg (by omega)]
   have hsz:=wf_size hwf
   rw [pw_8] at hsz
   have hcp:=copyPlan_ok p (by omega)
   generalize PV ws p = w at *
   suffices hh : ∀ rr : D,(∀ x,asP ws S p = some x → rr = .tup [pD x,Bo true]) → (asP ws S p = none → rr = .tup [pD zP,Bo false]) → Does Tryz.prog 30 [] [pD p,intsD ws,.sl 2 (S.map stE)] rr [] from
    hh _ (fun x hx=>by rw [hx]; rfl) (fun hx=>by rw [hx]; rfl)
   intro rr ht hf
   refine Bg c_Z78 mixed (go1 @hml ?_)
   refine Uc (cj2 @hne @hml) (h1) (go1 (cj2 @hne @hml) ?_)
   refine Uc @hml (hcp) (go1 @hml ?_)
   refine dw_for (c:=3) (l:=fun i=>[(1,intsD ws),(2,.sl 2 (S.map stE)),(3,.ref 1000000 0),(6,.ref 1000001 0),(7,Bo false),(8,.ref 1000002 0),(9,I i),(1000000,.obj [I p.k,I p.t,.sl 5 (p.es.map eD),intsD p.cs,.sl 5 (p.ks.map pD)]),(1000001,.obj [I 0,I 0,.nul,.nul,.nul]),(1000002,.obj [I (atS ws S p i).k,I (atS ws S p i).t,.sl 5 ((atS ws S p i).es.map eD),intsD (atS ws S p i).cs,.sl 5 ((atS ws S p i).ks.map pD)])]) S.length (fun i=>asP ws (S.take i) p = some (atS ws S p i)) 0 rfl (Wk.list [2000003,2000006,2000008] rfl rfl ?_) (fun i hi hJ=>?_) (Nat.zero_le _)
   ·repeat' (first|(conv in hold _=>simp (disch:=omega) only [go_sem,atS_0,hml])|exact trivial|exact Sub.refl _|omega)
    (repeat' apply And.intro) <;> rfl
   ·rcases at_or_end hi with ⟨s,hs0,hlt⟩ | rfl
    ·have hdat : (S.map stE)[i]? = some (.agg [I s.1,.sl 1 (s.2.map I)]):=by rw [List.getElem?_map,hs0]; rfl
     have hwi:=asP_wf hw (S.take i) hwf hJ
     have hsi:=wf_size hwi
     rw [pw_8] at hsi
     have hat:=ApplyStep_spec (atS ws S p i) (by omega) ws hl s.1 s.2 (hS s (List.mem_of_getElem? hs0))
     have hpo : apO ws s.1 s.2 (atS ws S p i) = apP ws s.1 s.2 (atS ws S p i):=by
      have:=(wf_to hw hwi)
      exact if_neg (by rw [PV_t hw]; omega)
     rw [hpo] at hat
     unfold stD intsD at hat
     cases ho : apP ws s.1 s.2 (atS ws S p i) with
     | none=>
      rw [ho] at hat
      rw [hf (asP_stop (i + 1) (by rw [asP_next hs0,hJ]; exact ho))]
      unfold paD at hat
      generalize S.map stE = ds at *
      refine go1 (cj2 @hdat @hml) ?_
      refine Uc (cj3 @hdat @hml @intsD.eq_1) (hat) (go1 (cj3 @hdat @hml @intsD.eq_1) ?_)
      exact zP_sub
     | some x=>
      rw [ho] at hat
      obtain ⟨n1,n2⟩:=atS_next hs0 hJ ho
      unfold paD at hat
      generalize S.map stE = ds at *
      refine go1 (cj2 @hdat @hml) ?_
      refine Uc (cj3 @hdat @hml @intsD.eq_1) (hat) (go1 (cj3 @hdat @hml @intsD.eq_1) ?_)
      refine ⟨hlt,n1,Wk.list [1000000,1000001,1000002] rfl rfl ?_⟩
      repeat' (first|(conv in hold _=>simp (disch:=omega) only [go_sem,n2,intsD])|exact trivial|exact Sub.refl _|omega)
    ·have e1 : S.take S.length = S:=List.take_length
     rw [e1] at hJ
     rw [ht _ hJ]
     exact go0 @hml
end
end Go.Proofs.YtgpdmgaemhelgaaGreat
set_option maxHeartbeats 4000000
set_option maxRecDepth 100000
set_option linter.unusedVariables false
set_option linter.unusedSimpArgs false
namespace Go.Proofs.YtgpdmgaemhelgaaGreat
open Go.RowKit
theorem someStep_ok {bs : List Nat} (hs : Src bs) (q : Nat) (hq : q < 500000000) (p : Pl) (hp : psz p ≤ 1048576) (ws : List Int) (hl : ws.length ≤ 1048576) : ∃ (r : Int) (l : List Int) (q' : Nat),Does Tryz.prog 50 [rdD bs q] [.ref 1000000 0,pD p,intsD ws] (stD r l) [rdD bs q'] ∧ l.length ≤ 8 ∧ (0 ≤ r ∧ r ≤ 12) ∧ q ≤ q' ∧ q' ≤ q + 20:=by
 have h1:=StepsFor_ok p hp ws hl
 have hmem:=fun s (h : s ∈ stpO ws p)=>stpO_mem h
 have hln:=stpO_len (ws:=ws) hp
 generalize stpO ws p = S at *
 obtain ⟨v,hv,v0,v1,_⟩:=pick_ok hs q (by omega) 5 (by omega)
 have hv4:=v1 (by omega)
 have hsl : ∀ q2 : Nat,q ≤ q2 → q2 ≤ q + 2 → ∃ (r : Int) (l : List Int) (q' : Nat),(∃ k : Int,r = k ∧ (Does Tryz.prog 65 [rdD bs q2] [.ref 1000000 0,I 13] (I k) [rdD bs (q2 + 1)]) ∧ Does Tryz.prog 83 [rdD bs (q2 + 1)] [.ref 1000000 0] (intsD l) [rdD bs q'] ∧ 0 ≤ k ∧ k ≤ 12) ∧ l.length ≤ 8 ∧ q ≤ q' ∧ q' ≤ q + 20:=by
  intro q2 h2 h3
  obtain ⟨k,hk,k0,k1,_⟩:=pick_ok hs q2 (by omega) 13 (by omega)
  have k1:=k1 (by omega)
  obtain ⟨l,q',hl',hll,hq1,hq2⟩:=somePath_ok hs (q2 + 1) (by omega)
  exact ⟨k,l,q',⟨k,rfl,hk,hl',k0,by omega⟩,by omega,by omega,by omega⟩
 by_cases hS : S.length = 0
 ·have hS0 : S = []:=List.length_eq_zero_iff.1 hS
  subst hS0
  obtain ⟨r,l,q',⟨k,rfl,hk,hl',k0,k1⟩,hll,hq0,hq1⟩:=hsl q (by omega) (by omega)
  refine ⟨r,l,q',?_,hll,⟨k0,k1⟩,hq0,hq1⟩
  unfold stD
  refine Bk c_Z132 mixed 1 (go1 trivial ?_)
  refine c_doesE (h1) ?_ ?_ ?_
  ·((try (conv=>rhs;simp (disch:=omega) only [go_sem,List.map_nil,List.length_nil])); try rfl)
  ·first|rfl|(conv=>lhs;simp only [go_sem,List.map_nil,List.length_nil])
  repeat' (first|with_reducible refine acc_none ?_ | (conv in hold _=>simp (disch:=omega) only [go_sem,List.map_nil,List.length_nil])|refine Stp.go ?_|(with_reducible first|refine it_pos rfl ?_|refine it_neg (by decide) ?_|refine st_nil rfl ?_|refine s_op ?_ ?_|exact trivial)|((with_reducible first|refine dw_reg0 ?_|refine dw_regB ?_);(conv=>arg 3;whnf))|(refine Spl.go (fun hq he=>?_) (fun hq he=>?_)<;>first|(exfalso;clear hq;omega)|((try first|(conv=>arg 8;simp only [hq])|(conv=>arg 4;simp only [hq]));clear hq))|((with_reducible first|refine c_split (fun hq=>?_) (fun hq=>?_)|refine q_split (fun hq=>?_) (fun hq=>?_))<;>(try first|(conv=>arg 8;simp only [hq])|(conv=>arg 4;simp only [hq])))|(with_reducible refine fin_0 ?_ (by first|rfl|(conv=>lhs;simp only [go_sem,List.map_nil,List.length_nil])) ?_)|exact Sub.refl _|omega)
  refine UcR [1000000] trivial (hk) (go1 trivial ?_)
  refine UcR [1000000] trivial (hl') (go1 trivial ?_)
  refine fin_L [1000000] ?_ ?_ rfl ?_
  repeat' (first|(conv in hold _=>simp (disch:=omega) only [go_sem])|exact trivial|exact Sub.refl _|omega)
 ·by_cases hv0 : v = 0
  ·subst hv0
   obtain ⟨r,l,q',⟨k,rfl,hk,hl',k0,k1⟩,hll,hq0,hq1⟩:=hsl (q + 1) (by omega) (by omega)
   refine ⟨r,l,q',?_,hll,⟨k0,k1⟩,hq0,hq1⟩
   unfold stD
   refine Bk c_Z132 mixed 1 (go1 trivial ?_)
   refine Uc trivial (h1) (go1 trivial ?_)
   refine UcR [1000000] trivial (hv) (go1 trivial ?_)
   refine UcR [1000000] trivial (hk) (go1 trivial ?_)
   refine UcR [1000000] trivial (hl') (go1 trivial ?_)
   refine fin_L [1000000] ?_ ?_ rfl ?_
   repeat' (first|(conv in hold _=>simp (disch:=omega) only [go_sem])|exact trivial|exact Sub.refl _|omega)
  ·obtain ⟨j,hj,j0,j1,_⟩:=pick_ok hs (q + 1) (by omega) S.length (by omega)
   have j1:=j1 (by omega)
   obtain ⟨n,rfl⟩:=Int.eq_ofNat_of_zero_le j0
   obtain ⟨s,hsn⟩ : ∃ s,S[n]? = some s:=⟨_,List.getElem?_eq_getElem (by omega)⟩
   have hm:=hmem s (List.mem_of_getElem? hsn)
   refine ⟨s.1,s.2,q + 2,?_,hm.1,by omega,by omega,by omega⟩
   have hdat : (S.map stE)[n]? = some (.agg [I s.1,.sl 1 (s.2.map I)]):=by rw [List.getElem?_map,hsn]; rfl
   have hn : n < S.length:=(List.getElem?_eq_some_iff.1 hsn).1
   have htl0:=take_all I s.2
   have hll : (s.2.map I).length = s.2.length:=List.length_map ..
   have hln2 : (S.map stE).length = S.length:=List.length_map ..
   unfold stD
   generalize S.map stE = ds at *
   refine Bk c_Z132 mixed 1 (go1 trivial ?_)
   refine Uc @hln2 (h1) (go1 @hln2 ?_)
   refine UcR [1000000] @hln2 (hv) (go1 @hln2 ?_)
   refine c_doesR [1000000] (hj) (callOK_of rfl (Nat.le_of_ble_eq_true rfl) rfl ?_ ?_) ?_ ?_
   ·repeat' (first|(conv in hold _=>simp (disch:=omega) only [go_sem,hln2,hdat])|exact trivial|exact Sub.refl _|omega)
   ·repeat' (first|(conv in hold _=>simp (disch:=omega) only [go_sem,hln2,hdat])|exact trivial|exact Sub.refl _|omega)
   ·((conv=>rhs;simp (disch:=omega) only [go_sem,hln2,hdat]); try rfl)
   repeat' ((fail_if_success (with_reducible first | refine s_mkb ?_ | refine s_mkd ?_)); first | with_reducible refine acc_none ?_ | (conv in hold _=>simp (disch:=omega) only [go_sem,hln2,hdat])|refine Stp.go ?_|(with_reducible first|refine it_pos rfl ?_|refine it_neg (by decide) ?_|refine st_nil rfl ?_|refine s_op ?_ ?_|exact trivial)|((with_reducible first|refine dw_reg0 ?_|refine dw_regB ?_);(conv=>arg 3;whnf))|(refine Spl.go (fun hq he=>?_) (fun hq he=>?_)<;>first|(exfalso;clear hq;omega)|((try first|(conv=>arg 8;simp only [hq])|(conv=>arg 4;simp only [hq]));clear hq))|((with_reducible first|refine c_split (fun hq=>?_) (fun hq=>?_)|refine q_split (fun hq=>?_) (fun hq=>?_))<;>(try first|(conv=>arg 8;simp only [hq])|(conv=>arg 4;simp only [hq])))|(with_reducible refine fin_0 ?_ (by first|rfl|(conv=>lhs;simp only [go_sem,hln2,hdat])) ?_)|exact Sub.refl _|omega)
   refine s_pre (pre_frz (t:=32) (g:=2000032) (by decide) (by decide) rfl ?_) ?_
   rotate_left
   refine go1 (cj2 @htl0 @hll) ?_
   ·refine fin_L [1000000] ?_ ?_ rfl ?_
    repeat' (first|(conv in hold _=>simp (disch:=omega) only [go_sem,intsD])|exact trivial|exact Sub.refl _|omega)
   ·exact ints_pur _
end Go.Proofs.YtgpdmgaemhelgaaGreat
set_option maxHeartbeats 4000000
set_option maxRecDepth 100000
set_option linter.unusedVariables false
set_option linter.unusedSimpArgs false
namespace Go.Proofs.YtgpdmgaemhelgaaGreat
open Go.RowKit
theorem apO_sz {ws : List Int} {r : Int} {l : List Int} {p x : Pl} (h : apO ws r l p = some x) : psz x ≤ 457727:=by
 obtain ⟨hne,hx⟩:=apO_some h
 obtain ⟨hw,hwf⟩:=PV_wf hne
 have h2:=wf_size (apP_some hw hwf hx).1
 rw [pw_8] at h2
 exact h2
def DrS (bs : List Nat) (ws : List Int) (q q' : Nat) (x x' : Pl) (s : Int × List Int) : Prop:=
 Does Tryz.prog 50 [rdD bs q] [.ref 1000000 0,pD x,intsD ws] (stD s.1 s.2) [rdD bs q'] ∧ x' = (apO ws s.1 s.2 x).getD x ∧ s.2.length ≤ 8 ∧ psz x ≤ 457727
theorem chain {bs : List Nat} (hs : Src bs) {ws : List Int} (hl : ws.length ≤ 1048576) : ∀ (n : Nat) (q : Nat) (x : Pl),q + 20 * n < 500000000 → psz x ≤ 457727 → ∃ (S : List (Int × List Int)) (qs : Nat → Nat) (xs : Nat → Pl),S.length = n ∧ qs 0 = q ∧ xs 0 = x ∧ qs n ≤ q + 20 * n ∧ ∀ (i : Nat) (s : Int × List Int),S[i]? = some s → DrS bs ws (qs i) (qs (i + 1)) (xs i) (xs (i + 1)) s
 | 0,q,x,_,_=>⟨[],fun _=>q,fun _=>x,rfl,rfl,rfl,Nat.le_refl _,fun i s h=>by simp at h⟩
 | n + 1,q,x,hq,hx=>by
  obtain ⟨r,l,q1,h1,hl8,_,hq0,hq1⟩:=someStep_ok hs q (by omega) x (by omega) ws hl
  have hx1 : psz ((apO ws r l x).getD x) ≤ 457727:=by
   cases ho : apO ws r l x with
   | none=>exact hx
   | some y=>exact apO_sz ho
  obtain ⟨S,qs,xs,hS,hq2,hx2,hqn,hst⟩:=chain hs hl n q1 ((apO ws r l x).getD x) (by omega) hx1
  refine ⟨(r,l) :: S,fun i=>match i with | 0=>q | i + 1=>qs i,fun i=>match i with | 0=>x | i + 1=>xs i,by rw [List.length_cons,hS],rfl,rfl,by show qs n ≤ _; omega,fun i s h=>?_⟩
  match i with
  | 0=>
   obtain rfl : (r,l) = s:=by simpa using h
   refine ⟨?_,?_,hl8,hx⟩
   ·show Does Tryz.prog 50 [rdD bs q] [.ref 1000000 0,pD x,intsD ws] (stD r l) [rdD bs (qs 0)]
    rw [hq2]
    exact h1
   ·exact hx2
  | i + 1=>exact hst i s (by simpa using h)
theorem someSteps_pos {bs : List Nat} (hs : Src bs) (q : Nat) (hq : q < 70000000) : ∃ (p : Pl) (ws : List Int) (S : List (Int × List Int)) (q' : Nat),Does Tryz.prog 62 [rdD bs q] [.ref 1000000 0] (.tup [pD p,intsD ws,.sl 2 (S.map stE)]) [rdD bs q'] ∧ psz p ≤ 11100 ∧ (2 ≤ ws.length ∧ ws.length ≤ 3) ∧ S.length ≤ 3 ∧ (∀ s,s ∈ S → s.2.length ≤ 8) ∧ q' ≤ q + 30000:=by
 obtain ⟨p,ws,q1,hp,hwl,_,hz,hq0,hq1⟩:=planAndWidths_ok hs q (by omega)
 obtain ⟨k,hk,k0,k1,_⟩:=pick_ok hs q1 (by omega) 4 (by omega)
 have k1:=k1 (by omega)
 obtain ⟨n,rfl⟩:=Int.eq_ofNat_of_zero_le k0
 obtain ⟨S,qs,xs,hS,hqs0,hxs0,hqn,hst⟩:=chain hs (ws:=ws) (by omega) n (q1 + 1) p (by omega) (by omega)
 refine ⟨p,ws,S,qs n,?_,hz,hwl,by omega,fun s hm=>by obtain ⟨i,hi⟩:=List.mem_iff_getElem?.1 hm; exact (hst i s hi).2.2.1,by omega⟩
 have hta:=take_all stE S
 rw [hS] at hta
 have hml : (S.map stE).length = n:=by rw [List.length_map,hS]
 refine Bk c_Z108 mixed 1 (go1 trivial ?_)
 refine UcR [1000000] trivial (hp) (go1 trivial ?_)
 refine UcR [1000000] trivial (hk) (go1 trivial ?_)
 refine dw_for (c:=5) (l:=fun i=>[(0,.ref 1000000 0),(2,.ref 1000001 0),(3,.nul),(4,.nul),(5,.ref 1000002 0),(6,intsD ws),(7,.own 1000004 2 i),(8,.ref 1000003 0),(9,I ((n : Int) - i)),(1000000,rdD bs (qs i)),(1000001,.obj [I 0,I 0,.nul,.nul,.nul]),(1000002,.obj [I p.k,I p.t,.sl 5 (p.es.map eD),intsD p.cs,.sl 5 (p.ks.map pD)]),(1000003,.obj [I (xs i).k,I (xs i).t,.sl 5 ((xs i).es.map eD),intsD (xs i).cs,.sl 5 ((xs i).ks.map pD)]),(1000004,.row 2 ((S.take i).map stE))]) n (fun _=>True) 0 trivial ((wk_row 7 2000190 2 (by decide) (by decide) rfl rfl).trans (Wk.list [1000000,2000002,2000005,2000008,2000190] rfl rfl ?_)) (fun i hi _=>?_) (Nat.zero_le _)
 ·rw [hqs0,hxs0]
  repeat' (first|(conv in hold _=>simp (disch:=omega) only [go_sem])|exact trivial|exact Sub.refl _|omega)
  (repeat' apply And.intro) <;> rfl
 ·have htl : (S.take i).length = i:=by rw [List.length_take]; omega
  have hmt:=take_map stE (vs:=S) (i:=i) (by omega)
  by_cases hil : i < n
  ·obtain ⟨s,hs0⟩ : ∃ s,S[i]? = some s:=⟨_,List.getElem?_eq_getElem (by omega)⟩
   obtain ⟨d1,d2,d3,d4⟩:=hst i s hs0
   have hnx:=take_next hs0
   have hap:=ApplyStep_spec (xs i) (by omega) ws (by omega) s.1 s.2 (by omega)
   have hsE : stE s = .agg [I s.1,.sl 1 (s.2.map I)]:=rfl
   unfold stD intsD at d1 hap
   cases ho : apO ws s.1 s.2 (xs i) with
   | none=>
    rw [ho] at hap d2
    have d2 : xs (i + 1) = xs i:=d2
    unfold paD at hap
    refine go1 trivial ?_
    refine UcR [1000000] @intsD.eq_1 (d1) (go1 @intsD.eq_1 ?_)
    refine Uc @intsD.eq_1 (hap) (go1 @intsD.eq_1 ?_)
    refine ⟨hil,trivial,Wk.list [1000000,1000001,1000002,1000003,2000033] rfl rfl ?_⟩
    repeat' (first|(conv in hold _=>simp (disch:=omega) only [go_sem,List.length_map,htl,d2,intsD])|exact trivial|exact Sub.refl _|omega)
    exact ⟨I_sub1 i n,by rw [hmt,hnx,List.map_append]; rfl⟩
   | some x=>
    rw [ho] at hap d2
    have d2 : xs (i + 1) = x:=d2
    unfold paD at hap
    refine go1 trivial ?_
    refine UcR [1000000] @intsD.eq_1 (d1) (go1 @intsD.eq_1 ?_)
    refine Uc @intsD.eq_1 (hap) (go1 @intsD.eq_1 ?_)
    refine ⟨hil,trivial,Wk.list [1000000,1000001,1000002,1000003,2000033] rfl rfl ?_⟩
    repeat' (first|(conv in hold _=>simp (disch:=omega) only [go_sem,List.length_map,htl,d2,intsD])|exact trivial|exact Sub.refl _|omega)
    exact ⟨I_sub1 i n,by rw [hmt,hnx,List.map_append]; rfl⟩
  ·obtain rfl : i = n:=by omega
   have e1 : S.take i = S:=List.take_of_length_le (by omega)
   have e0 : (i : Int) - (i : Int) = 0:=by omega
   rw [e1]
   refine go1F @e0 ?_
   refine fin_wk (wk_frz 4 1000004 (by decide) (by decide) rfl ?_) ?_
   rotate_left
   (conv in hold _=>simp (disch:=omega) only [go_sem,hta,hml,Nat.le_refl])
   ·refine fin_L [1000000] ?_ ?_ rfl ?_
    repeat' (first|(conv in hold _=>simp (disch:=omega) only [go_sem])|exact trivial|exact Sub.refl _|omega)
   ·exact stE_pur _
theorem DrawApplySteps_ok (cs : List Nat) (hc : ∀ b,b ∈ cs → b < 256) : ∃ (p : Pl) (ws : List Int) (S : List (Int × List Int)),Does Tryz.prog 28 [] [bytesD cs] (.tup [pD p,intsD ws,.sl 2 (S.map stE)]) [] ∧ psz p ≤ 11100 ∧ (2 ≤ ws.length ∧ ws.length ≤ 3) ∧ S.length ≤ 3 ∧ (∀ s,s ∈ S → s.2.length ≤ 8):=by
 have hs : Src (cs.take 2000):=⟨fun b hb=>hc b (List.mem_of_mem_take hb),by rw [List.length_take]; omega⟩
 have hr:=newReader_ok cs
 obtain ⟨p,ws,S,q,h1,hz,hwl,hS,hS8,_⟩:=someSteps_pos hs 0 (by decide)
 refine ⟨p,ws,S,?_,hz,hwl,hS,hS8⟩
 generalize S.map stE = ds at *
 refine Bg c_Z25 mixed (go1 trivial ?_)
 refine UcR [3000001] trivial (hr) (go1 trivial ?_)
 exact UcR [3000001] trivial (h1) (go0 trivial)
end Go.Proofs.YtgpdmgaemhelgaaGreat
