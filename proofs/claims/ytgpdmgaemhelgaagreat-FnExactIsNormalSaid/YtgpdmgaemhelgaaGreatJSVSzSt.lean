/-
  Steps applied one after the other, by both packages. No condition.
-/
import Derived.Test.YtgpdmgaemhelgaaGreatKSDca
import Derived.Test.YtgpdmgaemhelgaaGreatJSDch
import Derived.Test.YtgpdmgaemhelgaaGreatKSVStS
import Derived.Test.YtgpdmgaemhelgaaGreatJSVGo
import Derived.Test.YtgpdmgaemhelgaaGreatKSDcj
import Derived.Test.YtgpdmgaemhelgaaGreatJSDck
import Derived.Test.YtgpdmgaemhelgaaGreatJSVSzI
set_option maxHeartbeats 4000000
set_option maxRecDepth 100000
set_option linter.unusedVariables false
set_option linter.unusedSimpArgs false
namespace Go.Proofs.YtgpdmgaemhelgaaGreat
open Go.RowKit
noncomputable def asF (ws : List Int) (o : Option Pl) (S : List (Int × List Int)) : Option Pl:=S.foldl (fun o s=>o.bind fun x=>apP ws s.1 s.2 x) o
noncomputable def asP (ws : List Int) (S : List (Int × List Int)) (p : Pl) : Option Pl:=asF ws (some p) S
theorem asF_none (ws : List Int) : ∀ S : List (Int × List Int),asF ws none S = none
 | []=>rfl
 | s :: S=>asF_none ws S
theorem asF_append (ws : List Int) (o : Option Pl) (S T : List (Int × List Int)) : asF ws o (S ++ T) = asF ws (asF ws o S) T:=List.foldl_append
theorem asP_split (ws : List Int) (S T : List (Int × List Int)) (p : Pl) : asP ws (S ++ T) p = (asP ws S p).bind fun x=>asP ws T x:=by
 unfold asP
 rw [asF_append]
 cases asF ws (some p) S with
 | none=>exact asF_none ws T
 | some x=>rfl
theorem asP_next {ws : List Int} {S : List (Int × List Int)} {p : Pl} {i : Nat} {s : Int × List Int} (h : S[i]? = some s) : asP ws (S.take (i + 1)) p = (asP ws (S.take i) p).bind fun x=>apP ws s.1 s.2 x:=by
 rw [take_next h,asP_split]
 rfl
theorem asP_stop {ws : List Int} {S : List (Int × List Int)} {p : Pl} (i : Nat) (h : asP ws (S.take i) p = none) : asP ws S p = none:=by
 have:=asP_split ws (S.take i) (S.drop i) p
 rw [List.take_append_drop,h] at this
 exact this
theorem asP_wf {ws : List Int} (hw : wsOk ws) : ∀ (S : List (Int × List Int)) {p x : Pl} {w : Int},Wf ws p 8 w → asP ws S p = some x → Wf ws x 8 w
 | [],p,x,w,h,hx=>by
  obtain rfl : p = x:=Option.some.inj hx
  exact h
 | s :: S,p,x,w,h,hx=>by
  have h1:=asP_split ws [s] S p
  rw [List.singleton_append,hx] at h1
  cases h2 : asP ws [s] p with
  | none=>rw [h2] at h1; cases h1
  | some y=>
   rw [h2] at h1
   exact asP_wf hw S (apP_some hw h (show apP ws s.1 s.2 p = some y from h2)).1 h1.symm
noncomputable def asO (ws : List Int) (S : List (Int × List Int)) (p : Pl) : Option Pl:=if PV ws p = 0 ∨ 40 < S.length then none else asP ws S p
noncomputable def atS (ws : List Int) (S : List (Int × List Int)) (p : Pl) (i : Nat) : Pl:=(asP ws (S.take i) p).getD zP
theorem atS_0 (ws : List Int) (S : List (Int × List Int)) (p : Pl) : atS ws S p 0 = p:=rfl
theorem atS_next {ws : List Int} {S : List (Int × List Int)} {p x : Pl} {i : Nat} {s : Int × List Int} (h : S[i]? = some s) (hJ : asP ws (S.take i) p = some (atS ws S p i)) (hx : apP ws s.1 s.2 (atS ws S p i) = some x) : asP ws (S.take (i + 1)) p = some (atS ws S p (i + 1)) ∧ atS ws S p (i + 1) = x:=by
 have h1 : asP ws (S.take (i + 1)) p = some x:=by rw [asP_next h,hJ]; exact hx
 have h2 : atS ws S p (i + 1) = x:=by unfold atS; rw [h1]; rfl
 exact ⟨by rw [h2]; exact h1,h2⟩
section
variable {ws : List Int} (hl : ws.length ≤ 1048576) {p : Pl} (hs : psz p ≤ 1048576) (S : List (Int × List Int)) (hS : ∀ s,s ∈ S → s.2.length < 2000000) (hn : S.length ≤ 1048576)
include hl hs hS hn
theorem certTo_ok : Does Tryz.prog 63 [] [.sl 2 (S.map stE),pD p,intsD ws] (paD (asO ws S p)) []:=by
 obtain ⟨_,_,h1⟩:=PlanWidth_fn p hs ws hl
 have hml : (S.map stE).length = S.length:=List.length_map ..
 unfold asO
 by_cases hz : PV ws p = 0 ∨ 40 < S.length
 ·rw [if_pos hz]
  unfold paD
  by_cases h40 : 40 < S.length
  ·refine Bg c_Z11 mixed (go1 @hml ?_)
   exact zP_sub
  ·rw [show PV ws p = 0 by omega] at h1
   refine Bg c_Z11 mixed (go1 @hml ?_)
   refine Uc trivial (h1) (go1 trivial ?_)
   exact zP_sub
 ·rw [if_neg hz]
  obtain ⟨hw,hwf⟩:=PV_wf (show PV ws p ≠ 0 by omega)
  have hne : (PV ws p == 0) = false:=beq_eq_false_iff_ne.2 (by omega)
  have h40 : S.length ≤ 40:=by omega
  generalize PV ws p = w at *
  suffices hh : ∀ rr : D,(∀ x,asP ws S p = some x → rr = .tup [pD x,Bo true]) → (asP ws S p = none → rr = .tup [pD zP,Bo false]) → Does Tryz.prog 63 [] [.sl 2 (S.map stE),pD p,intsD ws] rr [] from
   hh _ (fun x hx=>by rw [hx]; rfl) (fun hx=>by rw [hx]; rfl)
  intro rr ht hf
  refine Bg c_Z11 mixed (go1 @hml ?_)
  refine Uc (cj2 @hne @hml) (h1) (go1 (cj2 @hne @hml) ?_)
  refine dw_for (c:=2) (l:=fun i=>[(2,intsD ws),(4,.ref 1000000 0),(6,.ref 1000001 0),(7,Bo false),(22,.sl 2 (S.map stE)),(23,I S.length),(24,I i),(1000000,.obj [I (atS ws S p i).k,I (atS ws S p i).t,.sl 5 ((atS ws S p i).es.map eD),intsD (atS ws S p i).cs,.sl 5 ((atS ws S p i).ks.map pD)]),(1000001,.obj [I 0,I 0,.nul,.nul,.nul])]) S.length (fun i=>asP ws (S.take i) p = some (atS ws S p i)) 0 rfl (Wk.list [2000004,2000006] rfl rfl ?_) (fun i hi hJ=>?_) (Nat.zero_le _)
  ·repeat' (first|(conv in hold _=>simp (disch:=omega) only [go_sem,atS_0,hml])|exact trivial|exact Sub.refl _|omega)
   (repeat' apply And.intro) <;> rfl
  ·rcases at_or_end hi with ⟨s,hs0,hlt⟩ | rfl
   ·have hdat : (S.map stE)[i]? = some (.agg [I s.1,.sl 1 (s.2.map I)]):=by rw [List.getElem?_map,hs0]; rfl
    have hwi:=asP_wf hw (S.take i) hwf hJ
    have hat:=applyTo_ok hw hwi s.1 s.2 (hS s (List.mem_of_getElem? hs0))
    unfold stD intsD at hat
    cases ho : apP ws s.1 s.2 (atS ws S p i) with
    | none=>
     rw [ho] at hat
     rw [hf (asP_stop (i + 1) (by rw [asP_next hs0,hJ]; exact ho))]
     unfold paD at hat
     generalize S.map stE = ds at *
     refine go1 (cj2 @hdat @hml) ?_
     refine Uc (cj3 @hdat @hml @intsD.eq_1) (hat) (go1 (cj3 @hdat @hml @intsD.eq_1) ?_)
     exact zP_sub
    | some x=>
     rw [ho] at hat
     obtain ⟨n1,n2⟩:=atS_next hs0 hJ ho
     unfold paD at hat
     generalize S.map stE = ds at *
     refine go1 (cj2 @hdat @hml) ?_
     refine Uc (cj3 @hdat @hml @intsD.eq_1) (hat) (go1 (cj3 @hdat @hml @intsD.eq_1) ?_)
     refine ⟨hlt,n1,Wk.list [1000000,1000001] rfl rfl ?_⟩
     repeat' (first|(conv in hold _=>simp (disch:=omega) only [go_sem,n2,intsD])|exact trivial|exact Sub.refl _|omega)
   ·have e1 : S.take S.length = S:=List.take_length
    rw [e1] at hJ
    rw [ht _ hJ]
    exact go0 @hml
theorem ApplySteps_spec : Does Tryz.prog 30 [] [pD p,intsD ws,.sl 2 (S.map stE)] (paD (asO ws S p)) []:=by
 obtain ⟨_,h1,_⟩:=PlanWidth_fn p hs ws hl
 have hml : (S.map stE).length = S.length:=List.length_map ..
 unfold asO
 by_cases hz : PV ws p = 0
 ·rw [if_pos (.inl hz)]
  rw [hz] at h1
  unfold paD
  refine Bg c_Z70 mixed (go1 trivial ?_)
  refine Uc trivial (h1) (go1 trivial ?_)
  exact zP_sub
 ·obtain ⟨hw,hwf⟩:=PV_wf hz
  have hne : (PV ws p == 0) = false:=beq_eq_false_iff_ne.2 hz
  by_cases h40 : 40 < S.length
  ·rw [if_pos (.inr h40)]
   unfold paD
   generalize PV ws p = w at *
   refine Bg c_Z70 mixed (go1 @hml ?_)
   refine Uc (cj2 @hne @hml) (h1) (go1 (cj2 @hne @hml) ?_)
   exact zP_sub
  ·rw [if_neg (by omega)]
   have hsz:=wf_size hwf
   rw [pw_8] at hsz
   have hcp:=copyPlan_ok p (by omega)
   generalize PV ws p = w at *
   suffices hh : ∀ rr : D,(∀ x,asP ws S p = some x → rr = .tup [pD x,Bo true]) → (asP ws S p = none → rr = .tup [pD zP,Bo false]) → Does Tryz.prog 30 [] [pD p,intsD ws,.sl 2 (S.map stE)] rr [] from
    hh _ (fun x hx=>by rw [hx]; rfl) (fun hx=>by rw [hx]; rfl)
   intro rr ht hf
   refine Bg c_Z70 mixed (go1 @hml ?_)
   refine Uc (cj2 @hne @hml) (h1) (go1 (cj2 @hne @hml) ?_)
   refine Uc @hml (hcp) (go1 @hml ?_)
   refine dw_for (c:=3) (l:=fun i=>[(1,intsD ws),(2,.sl 2 (S.map stE)),(3,.ref 1000000 0),(6,.ref 1000001 0),(7,Bo false),(8,.ref 1000002 0),(9,I i),(1000000,.obj [I p.k,I p.t,.sl 5 (p.es.map eD),intsD p.cs,.sl 5 (p.ks.map pD)]),(1000001,.obj [I 0,I 0,.nul,.nul,.nul]),(1000002,.obj [I (atS ws S p i).k,I (atS ws S p i).t,.sl 5 ((atS ws S p i).es.map eD),intsD (atS ws S p i).cs,.sl 5 ((atS ws S p i).ks.map pD)])]) S.length (fun i=>asP ws (S.take i) p = some (atS ws S p i)) 0 rfl (Wk.list [2000003,2000006,2000008] rfl rfl ?_) (fun i hi hJ=>?_) (Nat.zero_le _)
   ·repeat' (first|(conv in hold _=>simp (disch:=omega) only [go_sem,atS_0,hml])|exact trivial|exact Sub.refl _|omega)
    (repeat' apply And.intro) <;> rfl
   ·rcases at_or_end hi with ⟨s,hs0,hlt⟩ | rfl
    ·have hdat : (S.map stE)[i]? = some (.agg [I s.1,.sl 1 (s.2.map I)]):=by rw [List.getElem?_map,hs0]; rfl
     have hwi:=asP_wf hw (S.take i) hwf hJ
     have hsi:=wf_size hwi
     rw [pw_8] at hsi
     have hat:=ApplyStep_spec (atS ws S p i) (by omega) ws hl s.1 s.2 (hS s (List.mem_of_getElem? hs0))
     have hpo : apO ws s.1 s.2 (atS ws S p i) = apP ws s.1 s.2 (atS ws S p i):=by
      have:=(wf_to hw hwi)
      exact if_neg (by rw [PV_t hw]; omega)
     rw [hpo] at hat
     unfold stD intsD at hat
     cases ho : apP ws s.1 s.2 (atS ws S p i) with
     | none=>
      rw [ho] at hat
      rw [hf (asP_stop (i + 1) (by rw [asP_next hs0,hJ]; exact ho))]
      unfold paD at hat
      generalize S.map stE = ds at *
      refine go1 (cj2 @hdat @hml) ?_
      refine Uc (cj3 @hdat @hml @intsD.eq_1) (hat) (go1 (cj3 @hdat @hml @intsD.eq_1) ?_)
      exact zP_sub
     | some x=>
      rw [ho] at hat
      obtain ⟨n1,n2⟩:=atS_next hs0 hJ ho
      unfold paD at hat
      generalize S.map stE = ds at *
      refine go1 (cj2 @hdat @hml) ?_
      refine Uc (cj3 @hdat @hml @intsD.eq_1) (hat) (go1 (cj3 @hdat @hml @intsD.eq_1) ?_)
      refine ⟨hlt,n1,Wk.list [1000000,1000001,1000002] rfl rfl ?_⟩
      repeat' (first|(conv in hold _=>simp (disch:=omega) only [go_sem,n2,intsD])|exact trivial|exact Sub.refl _|omega)
    ·have e1 : S.take S.length = S:=List.take_length
     rw [e1] at hJ
     rw [ht _ hJ]
     exact go0 @hml
end
end Go.Proofs.YtgpdmgaemhelgaaGreat
set_option maxHeartbeats 4000000
set_option maxRecDepth 100000
set_option linter.unusedVariables false
set_option linter.unusedSimpArgs false
namespace Go.Proofs.YtgpdmgaemhelgaaGreat
open Go.RowKit
def ssz : List (Int × List Int) → Nat
 | []=>0
 | s :: l=>(1 + s.2.length) + ssz l
theorem ssz_append : ∀ (l m : List (Int × List Int)),ssz (l ++ m) = ssz l + ssz m
 | [],m=>by rw [List.nil_append,ssz,Nat.zero_add]
 | t :: l,m=>by rw [List.cons_append,ssz,ssz,ssz_append l m]; omega
theorem ssz_next {l : List (Int × List Int)} {i : Nat} {x : Int × List Int} (h : l[i]? = some x) : ssz (l.take (i + 1)) = ssz (l.take i) + (1 + x.2.length):=by
 rw [take_next h,ssz_append,ssz,ssz,Nat.add_zero]
theorem ssz_len : ∀ l : List (Int × List Int),l.length ≤ ssz l
 | []=>Nat.le_refl _
 | t :: l=>by have:=ssz_len l; rw [List.length_cons,ssz]; omega
theorem ssz_rest (l : List (Int × List Int)) (i : Nat) : ssz (l.take i) + (l.length - i) ≤ ssz l:=by
 have h : ssz l = ssz (l.take i) + ssz (l.drop i):=by rw [← ssz_append,List.take_append_drop]
 have h2:=ssz_len (l.drop i)
 rw [List.length_drop] at h2
 omega
theorem ssz_low (l : List (Int × List Int)) (i : Nat) (hi : i ≤ l.length) : i ≤ ssz (l.take i):=by
 have h:=ssz_len (l.take i)
 rw [List.length_take] at h
 omega
theorem ssz_mem {t : Int × List Int} : ∀ {l : List (Int × List Int)},t ∈ l → t.2.length + 1 ≤ ssz l
 | x :: l,h=>by
  rw [ssz]
  rcases List.mem_cons.1 h with rfl | h'
  ·omega
  ·have:=ssz_mem h'
   omega
def mostSt (l : List (Int × List Int)) : Prop:=l.length ≤ big ∧ ∀ t,t ∈ l → t.2.length ≤ big
theorem szStep_ok (s : Int × List Int) (hm : s.2.length ≤ big) (left : Int) (h0 : 0 ≤ left) (h1 : left ≤ 1048576) : Does Tryz.prog 73 [] [stE s,I left] (I (szV s.2.length left)) []:=by
 have hd:=szIntS_ok s.2 hm left h0 h1
 unfold stE stD
 by_cases hf : (s.2.length : Int) ≤ left
 ·rw [szV_t hf] at hd ⊢
  refine Bg c_Z145 mixed (go1 @intsD.eq_1 ?_)
  exact Uc @intsD.eq_1 (hd) (go0 @intsD.eq_1)
 ·rw [szV_f hf] at hd ⊢
  refine Bg c_Z145 mixed (go1 @intsD.eq_1 ?_)
  exact Uc @intsD.eq_1 (hd) (go0 @intsD.eq_1)
theorem toStep_ok (s : Int × List Int) (hd : s.2.length ≤ 1048576) : Does Tryz.prog 76 [] [stE s] (stE s) []:=by
 have h1:=toIntS_ok s.2 hd
 unfold stE stD
 refine Bg c_Z149 mixed (go1 @intsD.eq_1 ?_)
 exact Uc @intsD.eq_1 (h1) (go0 @intsD.eq_1)
theorem eqStep_ok (s : Int × List Int) (hd : s.2.length ≤ 1048576) : Does Tryz.prog 79 [] [stE s,stE s] (Bo true) []:=by
 have h1:=eqIntS_ok s.2 hd
 unfold stE stD
 refine Bg c_Z141 mixed (go1 @intsD.eq_1 ?_)
 exact Uc @intsD.eq_1 (h1) (go0 @intsD.eq_1)
theorem stE_eq (s : Int × List Int) : stE s = .agg [I s.1,.sl 1 (s.2.map I)]:=rfl
theorem szStepS_ok (l : List (Int × List Int)) (hm : mostSt l) (left : Int) (h0 : 0 ≤ left) (h1 : left ≤ 1048576) : Does Tryz.prog 41 [] [.sl 2 (l.map stE),I left] (I (szV (ssz l) left)) []:=by
 have hl:=hm.1
 unfold big at hl
 have hlen:=ssz_len l
 by_cases hfit : (l.length : Int) ≤ left
 ·refine Bg c_Z125 mixed (go1 trivial ?_)
  refine dw_for (c:=0) (l:=fun i=>[(0,.sl 2 (l.map stE)),(1,I (left - l.length - (ssz (l.take i) - i))),(5,I i)]) l.length (fun i=>0 ≤ left - l.length - ((ssz (l.take i) : Int) - i)) 0 (by rw [List.take_zero,ssz]; omega) (Wk.list [] rfl rfl ?_) (fun i hi hJ=>?_) (Nat.zero_le _)
  ·repeat' (first|(conv in hold _=>simp (disch:=omega) only [go_sem,List.length_map])|exact trivial|exact Sub.refl _|omega)
   rw [ssz]
   exact ⟨congrArg (fun n=>D.v (Value.int .i64 n)) (by omega),rfl⟩
  ·have hlow:=ssz_low l i hi
   rcases at_or_end hi with ⟨x,hx,hlt⟩ | rfl
   ·have hnx:=ssz_next hx
    have hrest:=ssz_rest l (i + 1)
    have hix:=szStep_ok x (hm.2 x (List.mem_of_getElem? hx)) (left - l.length - (ssz (l.take i) - i)) hJ (by omega)
    rw [stE_eq] at hix
    have hdat : (l.map stE)[i]? = some (.agg [I x.1,.sl 1 (x.2.map I)]):=by rw [List.getElem?_map,hx]; rfl
    have hml : (l.map stE).length = l.length:=List.length_map ..
    by_cases hx0 : (x.2.length : Int) ≤ left - l.length - (ssz (l.take i) - i)
    ·rw [szV_t hx0] at hix
     generalize l.map stE = ds at *
     refine go1 (cj2 @hdat @hml) ?_
     refine Uc (cj2 @hdat @hml) (hix) (go1 (cj2 @hdat @hml) ?_)
     refine ⟨hlt,by omega,Wk.list [] rfl rfl ?_⟩
     repeat' (first|(conv in hold _=>simp (disch:=omega) only [go_sem])|exact trivial|exact Sub.refl _|omega)
     exact congrArg (fun n=>D.v (Value.int .i64 n)) (by omega)
    ·rw [szV_f hx0] at hix
     rw [szV_f (by omega)]
     generalize l.map stE = ds at *
     refine go1 (cj2 @hdat @hml) ?_
     exact Uc (cj2 @hdat @hml) (hix) (go0 (cj2 @hdat @hml))
   ·rw [List.take_length] at hJ hlow
    rw [szV_t (by omega)]
    repeat' (first|with_reducible refine acc_none ?_ | (conv in hold _=>simp (disch:=omega) only [go_sem,List.take_length,List.length_map])|refine Stp.go ?_|(with_reducible first|refine it_pos rfl ?_|refine it_neg (by decide) ?_|refine st_nil rfl ?_|refine s_op ?_ ?_|exact trivial)|((with_reducible first|refine dw_reg0 ?_|refine dw_regB ?_);(conv=>arg 3;whnf))|(refine Spl.go (fun hq he=>?_) (fun hq he=>?_)<;>first|(exfalso;clear hq;omega)|((try first|(conv=>arg 8;simp only [hq])|(conv=>arg 4;simp only [hq]));clear hq))|((with_reducible first|refine c_split (fun hq=>?_) (fun hq=>?_)|refine q_split (fun hq=>?_) (fun hq=>?_))<;>(try first|(conv=>arg 8;simp only [hq])|(conv=>arg 4;simp only [hq])))|(with_reducible refine fin_0 ?_ (by first|rfl|(conv=>lhs;simp only [go_sem,List.take_length,List.length_map])) ?_)|exact Sub.refl _|omega)
    exact Sub.of_eq (congrArg (fun n=>D.v (Value.int .i64 n)) (by omega))
 ·rw [szV_f (by omega)]
  exact Bg c_Z125 mixed (go0 trivial)
theorem toStepS_ok (l : List (Int × List Int)) (hl : ssz l ≤ 1048576) : Does Tryz.prog 44 [] [.sl 2 (l.map stE)] (.sl 2 (l.map stE)) []:=by
 have hlen:=ssz_len l
 have hz:=fil_zero stE (.agg [I 0,.nul]) l
 have hren:=fil_ren stE (.agg [I 0,.nul]) (fun s=>rfl) rfl l
 refine Bg c_Z128 mixed (go1 trivial ?_)
 refine dw_for (c:=1) (l:=fun i=>[(0,.sl 2 (l.map stE)),(3,.own 1000000 2 l.length),(4,I i),(1000000,.row 2 (fil stE (.agg [I 0,.nul]) l i))]) l.length (fun _=>True) 0 trivial (Wk.list [2000007] rfl rfl ?_) (fun i hi _=>?_) (Nat.zero_le _)
 ·repeat' (first|(conv in hold _=>simp (disch:=omega) only [go_sem,hren,List.length_map])|exact trivial|exact Sub.refl _|omega)
  rw [hz]
  first | exact ⟨rfl,rfl⟩ | exact rfl
 ·have hfl:=fil_len stE (.agg [I 0,.nul]) l hi
  have hft:=fil_take stE (.agg [I 0,.nul]) l hi
  rcases at_or_end hi with ⟨x,hx,hlt⟩ | rfl
  ·have hst:=fil_set stE (.agg [I 0,.nul]) hx
   rw [stE_eq] at hst
   have hgi : (fil stE (.agg [I 0,.nul]) l i)[i]? = some (.agg [I 0,.nul]):=fil_get stE (.agg [I 0,.nul]) hlt
   have hv:=toStep_ok x (by have:=ssz_mem (List.mem_of_getElem? hx); omega)
   rw [stE_eq] at hv
   have hdat : (l.map stE)[i]? = some (.agg [I x.1,.sl 1 (x.2.map I)]):=by rw [List.getElem?_map,hx]; rfl
   have hml : (l.map stE).length = l.length:=List.length_map ..
   refine go1 (cj5 @hdat @hml @hfl @hft @hgi) ?_
   refine Uc (cj5 @hdat @hml @hfl @hft @hgi) (hv) (go1 (cj5 @hdat @hml @hfl @hft @hgi) ?_)
   refine ⟨hlt,trivial,Wk.list [1000000] rfl rfl ?_⟩
   repeat' (first|(conv in hold _=>simp (disch:=omega) only [go_sem,hst,hren])|exact trivial|exact Sub.refl _|omega)
  ·have he:=fil_end stE (.agg [I 0,.nul]) l
   refine go1F @he ?_
   refine fin_wk (wk_frz 2 1000000 (by decide) (by decide) rfl ?_) ?_
   rotate_left
   (conv in hold _=>simp (disch:=omega) only [go_sem,hft,he,hfl])
   ·refine fin_L [] ?_ ?_ rfl ?_
    repeat' (first|(conv in hold _=>simp (disch:=omega) only [go_sem])|exact trivial|exact Sub.refl _|omega)
   ·exact stE_pur _
theorem eqStepS_ok (l : List (Int × List Int)) (hl : ssz l ≤ 1048576) : Does Tryz.prog 47 [] [.sl 2 (l.map stE),.sl 2 (l.map stE)] (Bo true) []:=by
 have hlen:=ssz_len l
 have hml : (l.map stE).length = l.length:=List.length_map ..
 refine Bg c_Z121 mixed (go1 @hml ?_)
 refine dw_for (c:=0) (l:=fun i=>[(0,.sl 2 (l.map stE)),(1,.sl 2 (l.map stE)),(5,I i)]) l.length (fun _=>True) 0 trivial (Wk.list [] rfl rfl ?_) (fun i hi _=>?_) (Nat.zero_le _)
 ·repeat' (first|(conv in hold _=>simp (disch:=omega) only [go_sem,beq_self_eq_true,bne_self_eq_false,hml])|exact trivial|exact Sub.refl _|omega)
  first | exact rfl | exact ⟨rfl,rfl⟩
 ·rcases at_or_end hi with ⟨x,hx,hlt⟩ | rfl
  ·have hix:=eqStep_ok x (by have:=ssz_mem (List.mem_of_getElem? hx); omega)
   rw [stE_eq] at hix
   have hdat : (l.map stE)[i]? = some (.agg [I x.1,.sl 1 (x.2.map I)]):=by rw [List.getElem?_map,hx]; rfl
   refine go1 (cj2 @hdat @hml) ?_
   refine Uc (cj2 @hdat @hml) (hix) (go1 (cj2 @hdat @hml) ?_)
   refine ⟨hlt,trivial,Wk.list [] rfl rfl ?_⟩
   repeat' (first|(conv in hold _=>simp (disch:=omega) only [go_sem,beq_self_eq_true,bne_self_eq_false])|exact trivial|exact Sub.refl _|omega)
  ·exact go0 @hml
end Go.Proofs.YtgpdmgaemhelgaaGreat
