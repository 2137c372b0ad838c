/-
  The law that steps can be applied one after the other. No condition.
-/
import Derived.Test.YtgpdmgaemhelgaaGreatKSDcWAs
import Derived.Test.YtgpdmgaemhelgaaGreatKSDca
import Derived.Test.YtgpdmgaemhelgaaGreatJSVAsD
import Derived.Test.YtgpdmgaemhelgaaGreatJSVLaw
import Derived.Test.YtgpdmgaemhelgaaGreatJSVCall
set_option maxHeartbeats 4000000
set_option maxRecDepth 100000
set_option linter.unusedVariables false
set_option linter.unusedSimpArgs false
namespace Go.Proofs.YtgpdmgaemhelgaaGreat
open Go.RowKit
theorem asO_some {ws : List Int} {S : List (Int × List Int)} {p x : Pl} (h : asO ws S p = some x) : PV ws p ≠ 0 ∧ S.length ≤ 40 ∧ asP ws S p = some x ∧ psz x ≤ 457727 ∧ PV ws x = PV ws p:=by
 unfold asO at h
 split at h
 ·cases h
 ·rename_i hz
  obtain ⟨hw,hwf⟩:=PV_wf (show PV ws p ≠ 0 by omega)
  have h1:=asP_wf hw S hwf h
  have h2:=wf_size h1
  rw [pw_8] at h2
  exact ⟨by omega,by omega,h,h2,by rw [PV_t hw]; exact (wf_to hw h1).1⟩
theorem asO_cut {ws : List Int} {S : List (Int × List Int)} {p q : Pl} (h : asO ws S p = some q) (k : Nat) : ∃ a,asO ws (S.take k) p = some a ∧ asO ws (S.drop k) a = some q:=by
 obtain ⟨h1,h2,h3,_,_⟩:=asO_some h
 have hs:=asP_split ws (S.take k) (S.drop k) p
 rw [List.take_append_drop,h3] at hs
 cases ha : asP ws (S.take k) p with
 | none=>rw [ha] at hs; cases hs
 | some a=>
  rw [ha] at hs
  have hl1 : (S.take k).length ≤ S.length:=by rw [List.length_take]; omega
  have hl2 : (S.drop k).length ≤ S.length:=by rw [List.length_drop]; omega
  have e1 : asO ws (S.take k) p = some a:=(if_neg (by omega)).trans ha
  have h5:=asO_some e1
  refine ⟨a,e1,(if_neg (by rw [h5.2.2.2.2]; omega)).trans ?_⟩
  exact hs.symm
theorem does_FnApplySteps (cs : List Nat) (hc : ∀ b,b ∈ cs → b < 256) (ms : List Nat) (_ : ∀ b,b ∈ ms → b < 256) : Does Tryz.prog 8 [] [bytesD cs,bytesD ms] (Bo true) []:=by
 by_cases hlen : cs.length ≤ 1048576
 ·by_cases hlem : ms.length ≤ 1048576
  ·obtain ⟨p,ws,S,hdr,hz,hwl,hSl,hS8⟩:=DrawApplySteps_ok cs hc
   have hS8' : ∀ s,s ∈ S → s.2.length < 2000000:=fun s hs=>by have:=hS8 s hs; omega
   have a1:=ApplySteps_impl (ws:=ws) (by omega) (p:=p) (by omega) S hS8' (by omega)
   have a2:=ApplySteps_spec (ws:=ws) (by omega) (p:=p) (by omega) S hS8' (by omega)
   cases ho : asO ws S p with
   | none=>
    rw [ho] at a1 a2
    have e1:=equalPlans_ok zP (by decide)
    unfold paD at a1 a2
    generalize S.map stE = ds at *
    refine Bg c_Z43 mixed (go1 @bytesD.eq_1 ?_)
    refine Uc @bytesD.eq_1 (hdr) (go1 @bytesD.eq_1 ?_)
    refine Uc @bytesD.eq_1 (a1) (go1 @bytesD.eq_1 ?_)
    refine Uc @bytesD.eq_1 (a2) (go1 @bytesD.eq_1 ?_)
    refine Uc @bytesD.eq_1 (e1) (go1 @bytesD.eq_1 ?_)
    exact Uc @bytesD.eq_1 (e1) (go0 @bytesD.eq_1)
   | some q=>
    obtain ⟨hne,_,_,hq,_⟩:=asO_some ho
    obtain ⟨k,hk⟩ : ∃ k,k = ms.length % (S.length + 1):=⟨_,rfl⟩
    have hkl : k ≤ S.length:=by have:=Nat.mod_lt ms.length (show 0 < S.length + 1 by omega); omega
    have hd : ((ms.length : Nat) : Int).tmod ((S.length : Int) + 1) = (k : Int):=by rw [hk]; rfl
    obtain ⟨a,h1,h2⟩:=asO_cut ho k
    have haz:=(asO_some h1).2.2.2.1
    have b1:=ApplySteps_impl (ws:=ws) (by omega) (p:=p) (by omega) (S.take k) (fun s hs=>hS8' s (List.mem_of_mem_take hs)) (by rw [List.length_take]; omega)
    have b2:=ApplySteps_impl (ws:=ws) (by omega) (p:=a) (by omega) (S.drop k) (fun s hs=>hS8' s (List.mem_of_mem_drop hs)) (by rw [List.length_drop]; omega)
    rw [h1] at b1
    rw [h2] at b2
    rw [ho] at a1 a2
    have e1:=equalPlans_ok q (by omega)
    have ht : (S.map stE).take k = (S.take k).map stE:=(List.map_take ..).symm
    have hdp : (S.map stE).drop k = (S.drop k).map stE:=(List.map_drop ..).symm
    have htk:=take_all stE S
    have hml : (S.map stE).length = S.length:=List.length_map ..
    unfold paD at a1 a2 b1 b2
    refine Bg c_Z43 mixed (go1 @bytesD.eq_1 ?_)
    refine Uc @bytesD.eq_1 (hdr) (go1 @bytesD.eq_1 ?_)
    refine Uc @bytesD.eq_1 (a1) (go1 @bytesD.eq_1 ?_)
    refine Uc @bytesD.eq_1 (a2) (go1 @bytesD.eq_1 ?_)
    refine Uc (cj7 @bytesD.eq_1 @hd @ht @hdp @htk @hml @Int.toNat_natCast) (e1) (go1 (cj7 @bytesD.eq_1 @hd @ht @hdp @htk @hml @Int.toNat_natCast) ?_)
    refine c_doesE (b1) ?_ ?_ ?_
    ·((try (conv=>rhs;simp (disch:=omega) only [go_sem,bytesD,List.length_map,beq_self_eq_true,bne_self_eq_false,hd,ht,hdp,htk,hml,List.drop_zero,Int.toNat_natCast])); try rfl)
    ·first|rfl|(conv=>lhs;simp only [go_sem,bytesD,List.length_map,beq_self_eq_true,bne_self_eq_false,hd,ht,hdp,htk,hml,List.drop_zero,Int.toNat_natCast])
    repeat' (first|with_reducible refine acc_none ?_ | (conv in hold _=>simp (disch:=omega) only [go_sem,bytesD,List.length_map,beq_self_eq_true,bne_self_eq_false,hd,ht,hdp,htk,hml,List.drop_zero,Int.toNat_natCast])|refine Stp.go ?_|(with_reducible first|refine it_pos rfl ?_|refine it_neg (by decide) ?_|refine st_nil rfl ?_|refine s_op ?_ ?_|exact trivial)|((with_reducible first|refine dw_reg0 ?_|refine dw_regB ?_);(conv=>arg 3;whnf))|(refine Spl.go (fun hq he=>?_) (fun hq he=>?_)<;>first|(exfalso;clear hq;omega)|((try first|(conv=>arg 8;simp only [hq])|(conv=>arg 4;simp only [hq]));clear hq))|((with_reducible first|refine c_split (fun hq=>?_) (fun hq=>?_)|refine q_split (fun hq=>?_) (fun hq=>?_))<;>(try first|(conv=>arg 8;simp only [hq])|(conv=>arg 4;simp only [hq])))|(with_reducible refine fin_0 ?_ (by first|rfl|(conv=>lhs;simp only [go_sem,bytesD,List.length_map,beq_self_eq_true,bne_self_eq_false,hd,ht,hdp,htk,hml,List.drop_zero,Int.toNat_natCast])) ?_)|exact Sub.refl _|omega)
    refine c_doesE (b2) ?_ ?_ ?_
    ·((try (conv=>rhs;simp (disch:=omega) only [go_sem,bytesD,List.length_map,beq_self_eq_true,bne_self_eq_false,hd,ht,hdp,htk,hml,List.drop_zero,Int.toNat_natCast])); try rfl)
    ·first|rfl|(conv=>lhs;simp only [go_sem,bytesD,List.length_map,beq_self_eq_true,bne_self_eq_false,hd,ht,hdp,htk,hml,List.drop_zero,Int.toNat_natCast])
    repeat' (first|with_reducible refine acc_none ?_ | (conv in hold _=>simp (disch:=omega) only [go_sem,bytesD,List.length_map,beq_self_eq_true,bne_self_eq_false,hd,ht,hdp,htk,hml,List.drop_zero,Int.toNat_natCast])|refine Stp.go ?_|(with_reducible first|refine it_pos rfl ?_|refine it_neg (by decide) ?_|refine st_nil rfl ?_|refine s_op ?_ ?_|exact trivial)|((with_reducible first|refine dw_reg0 ?_|refine dw_regB ?_);(conv=>arg 3;whnf))|(refine Spl.go (fun hq he=>?_) (fun hq he=>?_)<;>first|(exfalso;clear hq;omega)|((try first|(conv=>arg 8;simp only [hq])|(conv=>arg 4;simp only [hq]));clear hq))|((with_reducible first|refine c_split (fun hq=>?_) (fun hq=>?_)|refine q_split (fun hq=>?_) (fun hq=>?_))<;>(try first|(conv=>arg 8;simp only [hq])|(conv=>arg 4;simp only [hq])))|(with_reducible refine fin_0 ?_ (by first|rfl|(conv=>lhs;simp only [go_sem,bytesD,List.length_map,beq_self_eq_true,bne_self_eq_false,hd,ht,hdp,htk,hml,List.drop_zero,Int.toNat_natCast])) ?_)|exact Sub.refl _|omega)
    exact Uc @bytesD.eq_1 (e1) (go0 @bytesD.eq_1)
  ·exact Bg c_Z43 mixed (go0 @bytesD.eq_1)
 ·exact Bg c_Z43 mixed (go0 @bytesD.eq_1)
theorem walk_FnApplySteps (a : Option Addr) (len cap : Nat) (zs : List Int) (a' : Option Addr) (len' cap' : Nat) (zs' : List Int) (w : World) (h : IsRow .u8 w a len cap zs) (h' : IsRow .u8 w a' len' cap' zs') :
  Calls Tryz.prog 8 #[.slice a len cap,.slice a' len' cap'] w fun e W'=>e = .returned (.bool true) ∧ Below w.heap.size w W':=walk_of2 does_FnApplySteps a len cap zs a' len' cap' zs' w h h'
end Go.Proofs.YtgpdmgaemhelgaaGreat
