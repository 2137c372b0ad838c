/-
  StepsFor, Normalize and IsNormal of the program. No condition.
-/
import Derived.Test.YtgpdmgaemhelgaaGreatKSDca
import Derived.Test.YtgpdmgaemhelgaaGreatJSVVa
import Derived.Test.YtgpdmgaemhelgaaGreatRows
import Derived.Test.YtgpdmgaemhelgaaGreatJSVGo
import Derived.Test.YtgpdmgaemhelgaaGreatJSVNmS
set_option maxHeartbeats 4000000
set_option maxRecDepth 100000
set_option linter.unusedVariables false
set_option linter.unusedSimpArgs false
namespace Go.Proofs.YtgpdmgaemhelgaaGreat
open Go.RowKit
theorem possibleSteps_ok (p : Pl) (ws : List Int) : Does Tryz.prog 59 [] [pD p,intsD ws] (.fn 106 [.ptr [I p.k,I p.t,.sl 5 (p.es.map eD),intsD p.cs,.sl 5 (p.ks.map pD)],.ptr [intsD ws]]) []:=by
 refine Bg c_Z33 mixed (go1F trivial ?_)
 refine fin_wk (wk_fro 4 2000002 (by decide) (by decide) rfl ?_) ?_
 rotate_left
 (conv in hold _=>simp (disch:=omega) only [go_sem])
 ·refine fin_wk (wk_fro 4 2000003 (by decide) (by decide) rfl ?_) ?_
  rotate_left
  (conv in hold _=>simp (disch:=omega) only [go_sem])
  ·refine fin_L [] ?_ ?_ rfl ?_
   all_goals exact Ag trivial
  ·rfl
 ·rfl
theorem normalizes_ok (s : Int × List Int) : Does Tryz.prog 116 [] [stE s] (Bo (lowR s.1)) []:=by
 rw [stE_mem]
 unfold lowR
 refine does0 c_Z21 mixed (Nat.le_of_ble_eq_true rfl) ?_
 conv=>arg 3; whnf
 repeat' (first|with_reducible refine acc_none ?_ | (conv in hold _=>simp (disch:=omega) only [go_sem])|refine Stp.go ?_|(with_reducible first|refine it_pos rfl ?_|refine it_neg (by decide) ?_|refine st_nil rfl ?_|refine s_op ?_ ?_|exact trivial)|((with_reducible first|refine dw_reg0 ?_|refine dw_regB ?_);(conv=>arg 3;whnf))|(refine Spl.go (fun hq he=>?_) (fun hq he=>?_)<;>first|(exfalso;clear hq;omega)|((try first|(conv=>arg 8;simp only [hq])|(conv=>arg 4;simp only [hq]));clear hq))|((with_reducible first|refine c_split (fun hq=>?_) (fun hq=>?_)|refine q_split (fun hq=>?_) (fun hq=>?_))<;>(try first|(conv=>arg 8;simp only [hq])|(conv=>arg 4;simp only [hq])))|(with_reducible refine fin_0 ?_ (by first|rfl|(conv=>lhs;simp only [go_sem])) ?_)|exact Sub.refl _|omega)
 all_goals (refine Sub.of_eq (congrArg (fun b=>D.v (Value.bool b)) ?_); simp [*])
section
variable {ws : List Int} (hw : wsOk ws) {p : Pl} {w : Int} (h : Wf ws p 8 w)
include hw h
theorem normalizingStep_ok : Does Tryz.prog 68 [] [pD p,intsD ws] (stE ((fsP ws p).getD (0,[]))) []:=by
 have hY:=possibleSteps_yields hw h
 have h2:=possibleSteps_ok p ws
 rw [pD_eq] at h2
 unfold fsP
 generalize stepsP ws p = S at *
 obtain ⟨k,hk,hlow,hcase⟩:=find_at S
 have hround : ∀ (j : Nat) (s : Int × List Int),S[j]? = some s → Does Tryz.prog 116 [] [.agg [I s.1,.sl 1 (s.2.map I)]] (Bo (lowR s.1)) []:=fun j s _=>normalizes_ok s
 rcases hcase with ⟨hc,hf⟩ | ⟨t,ht,htl,hf⟩
 ·rw [hf]
  show Does Tryz.prog 68 [] [pD p,intsD ws] (.agg [I 0,.sl 1 []]) []
  refine Bg c_Z22 mixed (go1 trivial ?_)
  refine Uc @intsD.eq_1 (h2) (go1 @intsD.eq_1 ?_)
  refine dw_rng 106 [.ptr [I p.k,I p.t,.sl 5 (p.es.map eD),intsD p.cs,.sl 5 (p.ks.map pD)],.ptr [intsD ws]] (S.map tupS) 2 2 [(2,.ref 1000000 0),(4,.ref 1000001 0),(8,.fn 106 [.ptr [I p.k,I p.t,.sl 5 (p.es.map eD),intsD p.cs,.sl 5 (p.ks.map pD)],.ptr [intsD ws]])] (fun j=>[(1000000,.obj [I p.k,I p.t,.sl 5 (p.es.map eD),intsD p.cs,.sl 5 (p.ks.map pD)]),(1000001,.obj [I 0,.nul])]) hY (by kernel_rfl) rfl (Nat.zero_le _) (Nat.le_refl _) (by decide) ?_ (fun j=>namesOK_of rfl) (Wk.list [2000002,2000004] rfl rfl ?_) rfl (fun j es h=>by obtain ⟨_,_,rfl⟩:=tupS_at h; rfl) (fun j es hes hp=>?_) ?_
  ·simp (disch:=omega) only [go_sem,intsD,and_self,Nat.reduceLT]
  ·exact Ag @intsD.eq_1
  ·obtain ⟨s,hs,rfl⟩:=tupS_at hes
   have h3:=hround j s hs
   rw [hlow j s (by have:=(List.getElem?_eq_some_iff.1 hs).1; omega) hs] at h3
   rw [stE_mem]
   refine go1 trivial ?_
   refine Uc trivial (h3) (go1 trivial ?_)
   refine Wk.list [1000000,1000001] rfl rfl ?_
   exact Ag @intsD.eq_1
  ·refine go1 trivial ?_
   exact Sub.agg ⟨Sub.refl _,Sub.nul 1,trivial⟩
 ·rw [hf]
  show Does Tryz.prog 68 [] [pD p,intsD ws] (stE t) []
  rw [stE_mem]
  refine Bg c_Z22 mixed (go1 trivial ?_)
  refine Uc @intsD.eq_1 (h2) (go1 @intsD.eq_1 ?_)
  refine dw_rngX 106 [.ptr [I p.k,I p.t,.sl 5 (p.es.map eD),intsD p.cs,.sl 5 (p.ks.map pD)],.ptr [intsD ws]] (S.map tupS) k 2 2 [(2,.ref 1000000 0),(4,.ref 1000001 0),(8,.fn 106 [.ptr [I p.k,I p.t,.sl 5 (p.es.map eD),intsD p.cs,.sl 5 (p.ks.map pD)],.ptr [intsD ws]])] (fun j=>[(1000000,.obj [I p.k,I p.t,.sl 5 (p.es.map eD),intsD p.cs,.sl 5 (p.ks.map pD)]),(1000001,.obj [I 0,.nul])]) hY (by kernel_rfl) rfl (Nat.zero_le _) (Nat.le_refl _) (by decide) ?_ (fun j=>namesOK_of rfl) (Wk.list [2000002,2000004] rfl rfl ?_) rfl (fun j es h=>by obtain ⟨_,_,rfl⟩:=tupS_at h; rfl) (by rw [List.length_map]; exact (List.getElem?_eq_some_iff.1 ht).1) (fun j es hj hes hp=>?_) (fun es hes hp=>?_)
  ·simp (disch:=omega) only [go_sem,intsD,and_self,Nat.reduceLT]
  ·exact Ag @intsD.eq_1
  ·obtain ⟨s,hs,rfl⟩:=tupS_at hes
   have h3:=hround j s hs
   rw [hlow j s hj hs] at h3
   rw [stE_mem]
   refine go1 trivial ?_
   refine Uc trivial (h3) (go1 trivial ?_)
   refine Wk.list [1000000,1000001] rfl rfl ?_
   exact Ag @intsD.eq_1
  ·obtain ⟨s,hs,rfl⟩:=tupS_at hes
   obtain rfl : t = s:=by rw [ht] at hs; exact Option.some.inj hs
   have h3:=hround k t ht
   rw [htl] at h3
   rw [stE_mem]
   refine go1 trivial ?_
   refine Uc trivial (h3) (go1 trivial ?_)
   refine ⟨[(1000000,.obj [I p.k,I p.t,.sl 5 (p.es.map eD),intsD p.cs,.sl 5 (p.ks.map pD)]),(1000001,.obj [I t.1,.sl 1 (t.2.map I)])],namesOK_of rfl,Wk.list [1000000,1000001] rfl rfl ?_,?_⟩
   ·exact Ag @intsD.eq_1
   ·exact go0 @intsD.eq_1
end
theorem IsNormal_impl (p : Pl) (hs : psz p ≤ 1048576) (ws : List Int) (hl : ws.length ≤ 1048576) : Does Tryz.prog 37 [] [pD p,intsD ws] (Bo (isN ws p)) []:=by
 obtain ⟨_,_,h1⟩:=PlanWidth_fn p hs ws hl
 unfold isN
 by_cases hz : PV ws p = 0
 ·rw [show decide (PV ws p ≠ 0) = false from decide_eq_false (fun g=>g hz),Bool.false_and]
  rw [hz] at h1
  refine Bg c_Z96 mixed (go1 @intsD.eq_1 ?_)
  exact Uc @intsD.eq_1 (h1) (go0 @intsD.eq_1)
 ·rw [show decide (PV ws p ≠ 0) = true from decide_eq_true hz,Bool.true_and]
  obtain ⟨hw,hwf⟩:=PV_wf hz
  have h2:=normalizingStep_ok hw hwf
  have hne : (PV ws p != 0) = true:=bne_iff_ne.2 hz
  rw [stE_mem] at h2
  cases hf : fsP ws p with
  | none=>
   rw [hf] at h2
   unfold intsD at h2
   refine Bg c_Z96 mixed (go1 @intsD.eq_1 ?_)
   refine Uc (cj2 @intsD.eq_1 @hne) (h1) (go1 (cj2 @intsD.eq_1 @hne) ?_)
   exact Uc (cj2 @intsD.eq_1 @hne) (h2) (go0 (cj2 @intsD.eq_1 @hne))
  | some s=>
   rw [hf] at h2
   have hr:=(stepsP_mem (fsP_some hf).1).2
   have hsr : (s.1 == 0) = false:=beq_eq_false_iff_ne.2 (by omega)
   unfold intsD at h2
   refine Bg c_Z96 mixed (go1 @intsD.eq_1 ?_)
   refine Uc (cj2 @intsD.eq_1 @hne) (h1) (go1 (cj2 @intsD.eq_1 @hne) ?_)
   refine Uc (cj2 @intsD.eq_1 @hne) (h2) (go1 (cj2 @intsD.eq_1 @hne) ?_)
   exact Sub.of_eq (by rw [hsr]; rfl)
end Go.Proofs.YtgpdmgaemhelgaaGreat
