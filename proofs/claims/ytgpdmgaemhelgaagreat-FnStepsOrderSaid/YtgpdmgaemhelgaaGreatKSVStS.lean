/-
  The paths of all parts and the steps that apply, by the model. No condition.
-/
import Derived.Test.YtgpdmgaemhelgaaGreatKSDca
import Derived.Test.YtgpdmgaemhelgaaGreatKSDcg
import Derived.Test.YtgpdmgaemhelgaaGreatJSDco
import Derived.Test.YtgpdmgaemhelgaaGreatKSVRsE
import Derived.Test.YtgpdmgaemhelgaaGreatJSVPaD
import Derived.Test.YtgpdmgaemhelgaaGreatJSVYld
set_option maxHeartbeats 4000000
set_option maxRecDepth 100000
set_option linter.unusedVariables false
set_option linter.unusedSimpArgs false
namespace Go.Proofs.YtgpdmgaemhelgaaGreat
open Go.RowKit
theorem paths_pur : ∀ l : List (List Int),D.purL (l.map intsD) = true
 | []=>rfl
 | a :: l=>by rw [List.map_cons,D.purL,paths_pur l]; rfl
theorem paths_ren (L : List Nat) (l : List (List Int)) : D.renL L (l.map intsD) = l.map intsD:=ren_pure.renL_pure L _ (paths_pur l)
attribute [go_sem] paths_pur paths_ren
def aheadK (p : Pl) (L : List (List Int)) (pre : List Int) (i : Nat) : List (List Int):=L ++ pre :: pathsL (p.ks.take i) pre 0
theorem ahead_0 (p : Pl) (L : List (List Int)) (pre : List Int) : aheadK p L pre 0 = L ++ [pre]:=by unfold aheadK; rw [List.take_zero,pathsL]
theorem ahead_next {p x : Pl} {L : List (List Int)} {pre : List Int} {i : Nat} (h : p.ks[i]? = some x) : aheadK p L pre (i + 1) = aheadK p L pre i ++ pathsP x (pre ++ [(i : Int)]):=by
 unfold aheadK
 rw [pathsL_next h,List.append_assoc,List.cons_append]
theorem ahead_end (p : Pl) (L : List (List Int)) (pre : List Int) : aheadK p L pre p.ks.length = L ++ pathsP p pre:=by
 unfold aheadK
 rw [List.take_length,pathsP_eq]
theorem ahead_len (p : Pl) (L : List (List Int)) (pre : List Int) (i : Nat) : (aheadK p L pre i).length ≤ L.length + (1 + psz p):=by
 have h1:=pathsL_len (p.ks.take i) pre 0
 have h2 : pszL (p.ks.take i) ≤ pszL p.ks:=by
  have:=pszL_append (p.ks.take i) (p.ks.drop i)
  rw [List.take_append_drop] at this
  omega
 unfold aheadK
 rw [List.length_append,List.length_cons,psz_eq p]
 omega
theorem ahead_kid {p x : Pl} (L : List (List Int)) (pre : List Int) {i : Nat} (h : p.ks[i]? = some x) : (aheadK p L pre i).length + psz x ≤ L.length + psz p:=by
 have h1:=pathsL_len (p.ks.take i) pre 0
 have h2:=pszL_next h
 have h3 : pszL (p.ks.take (i + 1)) ≤ pszL p.ks:=by
  have:=pszL_append (p.ks.take (i + 1)) (p.ks.drop (i + 1))
  rw [List.take_append_drop] at this
  omega
 unfold aheadK
 rw [List.length_append,List.length_cons,psz_eq p]
 omega
theorem addPaths_ok : ∀ (p : Pl),psz p ≤ 600000 → ∀ (L : List (List Int)) (pre : List Int),pre.length + psz p ≤ 900000 → L.length + psz p ≤ 900000 → Does Tryz.prog 109 [.row 1 (L.map intsD)] [.own 1000000 1 L.length,pD p,intsD pre] (.own 1000001 1 (L ++ pathsP p pre).length) [.any,.row 1 ((L ++ pathsP p pre).map intsD)]:=by
 refine Pl.indA (fun p ih hs L pre hpre hL=>?_)
 have hps:=psz_eq p
 have hlk:=pszL_len p.ks
 have t0:=take_all intsD L
 have tp:=take_all I pre
 have hal:=ahead_len p L pre
 have hkd:=fun (i : Nat) (x : Pl) (hx : p.ks[i]? = some x)=>ahead_kid L pre hx
 have ha0:=ahead_0 p L pre
 have hae:=ahead_end p L pre
 have han:=fun (i : Nat) (x : Pl) (hx : p.ks[i]? = some x)=>ahead_next (L:=L) (pre:=pre) hx
 rw [← hae]
 generalize aheadK p L pre = K at *
 have h0l : (K 0).length = L.length + 1:=by rw [ha0,List.length_append]; rfl
 have h0m : L.map intsD ++ [D.sl 1 (pre.map I)] = (K 0).map intsD:=by rw [ha0,List.map_append]; rfl
 have hpl : (pre.map I).length = pre.length:=List.length_map ..
 refine does c_Z118 mixed (Nat.le_of_ble_eq_true rfl) 1 rfl ?_
 conv=>arg 3; whnf
 repeat' ((fail_if_success (with_reducible first | refine s_mkb ?_ | refine s_mkd ?_)); first | with_reducible refine acc_none ?_ | (conv in hold _=>simp (disch:=omega) only [go_sem,intsD])|refine Stp.go ?_|(with_reducible first|refine it_pos rfl ?_|refine it_neg (by decide) ?_|refine st_nil rfl ?_|refine s_op ?_ ?_|exact trivial)|((with_reducible first|refine dw_reg0 ?_|refine dw_regB ?_);(conv=>arg 3;whnf))|(refine Spl.go (fun hq he=>?_) (fun hq he=>?_)<;>first|(exfalso;clear hq;omega)|((try first|(conv=>arg 8;simp only [hq])|(conv=>arg 4;simp only [hq]));clear hq))|((with_reducible first|refine c_split (fun hq=>?_) (fun hq=>?_)|refine q_split (fun hq=>?_) (fun hq=>?_))<;>(try first|(conv=>arg 8;simp only [hq])|(conv=>arg 4;simp only [hq])))|(with_reducible refine fin_0 ?_ (by first|rfl|(conv=>lhs;simp only [go_sem,intsD])) ?_)|exact Sub.refl _|omega)
 refine s_pre (pre_frz (t:=11) (g:=2000011) (by decide) (by decide) rfl ?_) ?_
 rotate_left
 refine go1 (cj2 @tp @hpl) ?_
 ·refine dw_for (c:=3) (l:=fun i=>[(0,.own 1000001 1 (K i).length),(2,intsD pre),(4,.ref 1000002 0),(6,.nul),(7,I i),(1000000,.any),(1000001,.row 1 ((K i).map intsD)),(1000002,.obj [I p.k,I p.t,.sl 5 (p.es.map eD),intsD p.cs,.sl 5 (p.ks.map pD)])]) p.ks.length (fun _=>True) 0 trivial (Wk.list [1000000,2000013,2000004] rfl rfl ?_) (fun i hi _=>?_) (Nat.zero_le _)
  ·repeat' (first|(conv in hold _=>simp (disch:=omega) only [go_sem,t0,h0m,h0l,List.length_map])|exact trivial|exact Sub.refl _|omega)
   (repeat' apply And.intro) <;> first | rfl | (rw [h0l]) | (rw [h0m])
  ·rcases at_or_end hi with ⟨x,hx0,hlt⟩ | rfl
   ·have hxs:=pszL_mem (List.mem_of_getElem? hx0)
    have hki:=hkd i x hx0
    have hpi : (pre.map I) ++ [I (i : Int)] = (pre ++ [(i : Int)]).map I:=by rw [List.map_append]; rfl
    have hpil : ((pre ++ [(i : Int)]).map I).length = pre.length + 1:=by rw [List.length_map,List.length_append]; rfl
    have tpi : ((pre ++ [(i : Int)]).map I).take (pre.length + 1) = (pre ++ [(i : Int)]).map I:=List.take_of_length_le (by omega)
    have hix:=ih x (List.mem_of_getElem? hx0) (by omega) (K i) (pre ++ [(i : Int)]) (by rw [List.length_append,List.length_singleton]; omega) (by omega)
    rw [← han i x hx0] at hix
    rw [show intsD (pre ++ [(i : Int)]) = D.sl 1 ((pre ++ [(i : Int)]).map I) from rfl] at hix
    refine go1C (cj4 @hx0 @tp @intsD.eq_1 @hpl) ?_
    refine s_pre (pre_frz (t:=32) (g:=2000032) (by decide) (by decide) rfl ?_) ?_
    rotate_left
    refine go1 (cj5 @tp @hpl @hpi @hpil @tpi) ?_
    ·refine UcR [1000001,3000001] (cj5 @tp @hpl @hpi @hpil @tpi) (hix) (go1 (cj5 @tp @hpl @hpi @hpil @tpi) ?_)
     refine ⟨hlt,trivial,Wk.list [1000000,3000001,1000002] rfl rfl ?_⟩
     exact Ag @intsD.eq_1
    ·rw [hpi]; exact ints_pur _
   ·refine go1 trivial ?_
    refine fin_L [1000000,1000001] ?_ ?_ rfl ?_
    all_goals exact Ag trivial
 ·exact ints_pur _
theorem addPaths_top (p : Pl) (hs : psz p ≤ 600000) : Does Tryz.prog 109 [] [.nul,pD p,intsD []] (.own 1000000 1 (pathsP p []).length) [.row 1 ((pathsP p []).map intsD)]:=by
 have hps:=psz_eq p
 have hlk:=pszL_len p.ks
 have hal:=ahead_len p [] []
 have hkd:=fun (i : Nat) (x : Pl) (hx : p.ks[i]? = some x)=>ahead_kid [] [] hx
 have ha0:=ahead_0 p [] []
 have hae:=ahead_end p [] []
 have han:=fun (i : Nat) (x : Pl) (hx : p.ks[i]? = some x)=>ahead_next (L:=[]) (pre:=[]) hx
 rw [List.nil_append] at ha0 hae
 rw [← hae]
 generalize aheadK p [] [] = K at *
 have h0l : (K 0).length = 1:=by rw [ha0]; rfl
 have h0m : [D.sl 1 []] = (K 0).map intsD:=by rw [ha0]; rfl
 refine does c_Z118 mixed (Nat.le_of_ble_eq_true rfl) 0 rfl ?_
 conv=>arg 3; whnf
 repeat' ((fail_if_success (with_reducible first | refine s_mkb ?_ | refine s_mkd ?_)); first | with_reducible refine acc_none ?_ | (conv in hold _=>simp (disch:=omega) only [go_sem,intsD,List.map_nil,List.length_nil])|refine Stp.go ?_|(with_reducible first|refine it_pos rfl ?_|refine it_neg (by decide) ?_|refine st_nil rfl ?_|refine s_op ?_ ?_|exact trivial)|((with_reducible first|refine dw_reg0 ?_|refine dw_regB ?_);(conv=>arg 3;whnf))|(refine Spl.go (fun hq he=>?_) (fun hq he=>?_)<;>first|(exfalso;clear hq;omega)|((try first|(conv=>arg 8;simp only [hq])|(conv=>arg 4;simp only [hq]));clear hq))|((with_reducible first|refine c_split (fun hq=>?_) (fun hq=>?_)|refine q_split (fun hq=>?_) (fun hq=>?_))<;>(try first|(conv=>arg 8;simp only [hq])|(conv=>arg 4;simp only [hq])))|(with_reducible refine fin_0 ?_ (by first|rfl|(conv=>lhs;simp only [go_sem,intsD,List.map_nil,List.length_nil])) ?_)|exact Sub.refl _|omega)
 refine s_pre (pre_frz (t:=11) (g:=2000011) (by decide) (by decide) rfl ?_) ?_
 rotate_left
 repeat' (first|with_reducible refine acc_none ?_ | (conv in hold _=>simp (disch:=omega) only [go_sem,List.length_nil,Nat.le_refl])|refine Stp.go ?_|(with_reducible first|refine it_pos rfl ?_|refine it_neg (by decide) ?_|refine st_nil rfl ?_|refine s_op ?_ ?_|exact trivial)|((with_reducible first|refine dw_reg0 ?_|refine dw_regB ?_);(conv=>arg 3;whnf))|(refine Spl.go (fun hq he=>?_) (fun hq he=>?_)<;>first|(exfalso;clear hq;omega)|((try first|(conv=>arg 8;simp only [hq])|(conv=>arg 4;simp only [hq]));clear hq))|((with_reducible first|refine c_split (fun hq=>?_) (fun hq=>?_)|refine q_split (fun hq=>?_) (fun hq=>?_))<;>(try first|(conv=>arg 8;simp only [hq])|(conv=>arg 4;simp only [hq])))|(with_reducible refine fin_0 ?_ (by first|rfl|(conv=>lhs;simp only [go_sem,List.length_nil,Nat.le_refl])) ?_)|exact Sub.refl _|omega)
 ·refine dw_for (c:=2) (l:=fun i=>[(0,.own 1000000 1 (K i).length),(2,intsD []),(4,.ref 1000001 0),(6,.nul),(7,I i),(1000000,.row 1 ((K i).map intsD)),(1000001,.obj [I p.k,I p.t,.sl 5 (p.es.map eD),intsD p.cs,.sl 5 (p.ks.map pD)])]) p.ks.length (fun _=>True) 0 trivial (Wk.list [2000013,2000004] rfl rfl ?_) (fun i hi _=>?_) (Nat.zero_le _)
  ·repeat' (first|(conv in hold _=>simp (disch:=omega) only [go_sem,h0m,h0l,List.length_map])|exact trivial|exact Sub.refl _|omega)
   (repeat' apply And.intro) <;> first | rfl | (rw [h0l]) | (rw [← h0m]; rfl)
  ·rcases at_or_end hi with ⟨x,hx0,hlt⟩ | rfl
   ·have hxs:=pszL_mem (List.mem_of_getElem? hx0)
    have hki:=hkd i x hx0
    have hix:=addPaths_ok x (by omega) (K i) ([] ++ [(i : Int)]) (by rw [List.length_append,List.length_singleton]; simp; omega) (by simp at hki; omega)
    rw [← han i x hx0] at hix
    rw [show intsD ([] ++ [(i : Int)]) = D.sl 1 [I (i : Int)] from rfl] at hix
    refine go1C (cj2 @hx0 @intsD.eq_1) ?_
    refine s_pre (pre_frz (t:=32) (g:=2000032) (by decide) (by decide) rfl ?_) ?_
    rotate_left
    refine go1 trivial ?_
    ·refine UcR [1000000,3000001] trivial (hix) (go1 trivial ?_)
     refine ⟨hlt,trivial,Wk.list [3000001,1000001] rfl rfl ?_⟩
     exact Ag @intsD.eq_1
    ·rfl
   ·refine go1 trivial ?_
    refine fin_L [1000000] ?_ ?_ rfl ?_
    all_goals exact Ag trivial
 ·rfl
def stE (s : Int × List Int) : D:=stD s.1 s.2
theorem stE_pur : ∀ l : List (Int × List Int),D.purL (l.map stE) = true
 | []=>rfl
 | a :: l=>by rw [List.map_cons,D.purL,stE_pur l]; rfl
theorem stE_ren (L : List Nat) (l : List (Int × List Int)) : D.renL L (l.map stE) = l.map stE:=ren_pure.renL_pure L _ (stE_pur l)
attribute [go_sem] stE_pur stE_ren
theorem stepsFor_ok {ws : List Int} (hw : wsOk ws) {p : Pl} {w : Int} (h : Wf ws p 8 w) : Does Tryz.prog 60 [] [pD p,intsD ws] (.sl 2 ((stepsP ws p).map stE)) []:=by
 have hs:=wf_size h
 rw [pw_8] at hs
 have hap:=(addPaths_top p (by omega)).weak (es:=[.nul,pD p,.nul]) ⟨Sub.refl _,Sub.refl _,Sub.nul 1,trivial⟩ (Sub.refl _)
 have hpl:=pathsP_len p []
 have hshort : ∀ l,l ∈ pathsP p [] → l.length ≤ 8:=fun l hl=>by have:=pathsP_short h [] l hl; simpa using this
 unfold stepsP
 generalize pathsP p [] = ls at *
 have htot:=stepsTo_len ws p ls
 have htl:=fun i=>stepsTo_len ws p (ls.take i)
 refine Bg c_Z129 mixed (go1 trivial ?_)
 refine UcR [3000001] trivial (hap) (go1 trivial ?_)
 refine dw_for (c:=3) (l:=fun i=>[(1,intsD ws),(2,.ref 1000000 0),(4,.nul),(5,.own 1000001 2 (stepsTo ws p (ls.take i)).length),(6,.own 1000002 1 ls.length),(7,I i),(1000000,.obj [I p.k,I p.t,.sl 5 (p.es.map eD),intsD p.cs,.sl 5 (p.ks.map pD)]),(1000001,.row 2 ((stepsTo ws p (ls.take i)).map stE)),(1000002,.row 1 (ls.map intsD))]) ls.length (fun _=>True) 0 trivial ((wk_row 5 2000190 2 (by decide) (by decide) rfl rfl).trans (Wk.list [2000002,2000190,3000001] rfl rfl ?_)) (fun i hi _=>?_) (Nat.zero_le _)
 ·repeat' (first|(conv in hold _=>simp (disch:=omega) only [go_sem])|exact trivial|exact Sub.refl _|omega)
  (repeat' apply And.intro) <;> rfl
 ·have hlen:=htl i
  rw [List.length_take] at hlen
  rcases at_or_end hi with ⟨l,hl0,hlt⟩ | rfl
  ·have hl8:=hshort l (List.mem_of_getElem? hl0)
   have hnx:=stepsTo_next (ws:=ws) (p:=p) hl0
   have htl0:=take_all I l
   have hll : (l.map I).length = l.length:=List.length_map ..
   refine go1 trivial ?_
   refine dw_for (c:=3) (l:=fun n=>[(1,intsD ws),(2,.ref 1000000 0),(4,.nul),(5,.own 1000001 2 (stepsTo ws p (ls.take i) ++ stepsAt ws p l n).length),(6,.own 1000002 1 ls.length),(7,I i),(8,I ((n : Int) + 1)),(1000000,.obj [I p.k,I p.t,.sl 5 (p.es.map eD),intsD p.cs,.sl 5 (p.ks.map pD)]),(1000001,.row 2 ((stepsTo ws p (ls.take i) ++ stepsAt ws p l n).map stE)),(1000002,.row 1 (ls.map intsD))]) 11 (fun _=>True) 0 trivial (Wk.list [1000000,1000001,1000002] rfl rfl ?_) (fun n hn _=>?_) (Nat.zero_le _)
   ·repeat' (first|(conv in hold _=>simp (disch:=omega) only [go_sem,stepsAt,List.append_nil])|exact trivial|exact Sub.refl _|omega)
    (repeat' apply And.intro) <;> rfl
   ·by_cases hn11 : n < 11
    ·have hat:=stepsAt_len ws p l n
     have hst:=applyStep_ok hw h ((n : Int) + 1) l (by omega)
     have hS : stepsAt ws p l (n + 1) = stepsAt ws p l n ++ if (apP ws ((n : Int) + 1) l p).isSome = true then [((n : Int) + 1,l)] else []:=rfl
     have hta:=take_all stE (stepsTo ws p (ls.take i) ++ stepsAt ws p l n)
     have htn : (stepsTo ws p (ls.take i) ++ stepsAt ws p l n).length = (stepsTo ws p (ls.take i)).length + (stepsAt ws p l n).length:=List.length_append
     unfold stD at hst
     cases ho : apP ws ((n : Int) + 1) l p with
     | none=>
      rw [ho] at hS hst
      have hS : stepsAt ws p l (n + 1) = stepsAt ws p l n:=by rw [hS]; exact List.append_nil _
      unfold paD at hst
      rw [hS]
      generalize stepsTo ws p (ls.take i) ++ stepsAt ws p l n = T at *
      repeat' ((fail_if_success (with_reducible first | refine s_mkb ?_ | refine s_mkd ?_)); first | with_reducible refine acc_none ?_ | (conv in hold _=>simp (disch:=omega) only [go_sem,List.getElem?_map,hl0,Option.map_some,intsD,htl0,hll])|refine Stp.go ?_|(with_reducible first|refine it_pos rfl ?_|refine it_neg (by decide) ?_|refine st_nil rfl ?_|refine s_op ?_ ?_|exact trivial)|((with_reducible first|refine dw_reg0 ?_|refine dw_regB ?_);(conv=>arg 3;whnf))|(refine Spl.go (fun hq he=>?_) (fun hq he=>?_)<;>first|(exfalso;clear hq;omega)|((try first|(conv=>arg 8;simp only [hq])|(conv=>arg 4;simp only [hq]));clear hq))|((with_reducible first|refine c_split (fun hq=>?_) (fun hq=>?_)|refine q_split (fun hq=>?_) (fun hq=>?_))<;>(try first|(conv=>arg 8;simp only [hq])|(conv=>arg 4;simp only [hq])))|(with_reducible refine fin_0 ?_ (by first|rfl|(conv=>lhs;simp only [go_sem,List.getElem?_map,hl0,Option.map_some,intsD,htl0,hll])) ?_)|exact Sub.refl _|omega)
      refine s_pre (pre_frz (t:=33) (g:=2000033) (by decide) (by decide) rfl ?_) ?_
      rotate_left
      refine go1 (cj2 @htl0 @hll) ?_
      ·refine Uc (cj3 @intsD.eq_1 @htl0 @hll) (hst) (go1 (cj3 @intsD.eq_1 @htl0 @hll) ?_)
       refine ⟨hn11,trivial,Wk.list [1000000,1000001,1000002] rfl rfl ?_⟩
       exact Ag trivial
      ·exact ints_pur _
     | some q=>
      rw [ho] at hS hst
      have hS : stepsAt ws p l (n + 1) = stepsAt ws p l n ++ [((n : Int) + 1,l)]:=hS
      unfold paD at hst
      have hT : stepsTo ws p (ls.take i) ++ stepsAt ws p l (n + 1) = (stepsTo ws p (ls.take i) ++ stepsAt ws p l n) ++ [((n : Int) + 1,l)]:=by rw [hS,List.append_assoc]
      rw [hT]
      generalize stepsTo ws p (ls.take i) ++ stepsAt ws p l n = T at *
      repeat' ((fail_if_success (with_reducible first | refine s_mkb ?_ | refine s_mkd ?_)); first | with_reducible refine acc_none ?_ | (conv in hold _=>simp (disch:=omega) only [go_sem,List.getElem?_map,hl0,Option.map_some,intsD,htl0,hll])|refine Stp.go ?_|(with_reducible first|refine it_pos rfl ?_|refine it_neg (by decide) ?_|refine st_nil rfl ?_|refine s_op ?_ ?_|exact trivial)|((with_reducible first|refine dw_reg0 ?_|refine dw_regB ?_);(conv=>arg 3;whnf))|(refine Spl.go (fun hq he=>?_) (fun hq he=>?_)<;>first|(exfalso;clear hq;omega)|((try first|(conv=>arg 8;simp only [hq])|(conv=>arg 4;simp only [hq]));clear hq))|((with_reducible first|refine c_split (fun hq=>?_) (fun hq=>?_)|refine q_split (fun hq=>?_) (fun hq=>?_))<;>(try first|(conv=>arg 8;simp only [hq])|(conv=>arg 4;simp only [hq])))|(with_reducible refine fin_0 ?_ (by first|rfl|(conv=>lhs;simp only [go_sem,List.getElem?_map,hl0,Option.map_some,intsD,htl0,hll])) ?_)|exact Sub.refl _|omega)
      refine s_pre (pre_frz (t:=33) (g:=2000033) (by decide) (by decide) rfl ?_) ?_
      rotate_left
      refine go1 (cj2 @htl0 @hll) ?_
      ·refine Uc (cj4 @intsD.eq_1 @htl0 @hll @hta) (hst) (go1 (cj4 @intsD.eq_1 @htl0 @hll @hta) ?_)
       refine ⟨hn11,trivial,Wk.list [1000000,2000046,1000002] rfl rfl ?_⟩
       repeat' (first|(conv in hold _=>simp (disch:=omega) only [go_sem,List.length_append,List.length_map,hta])|exact trivial|exact Sub.refl _|omega)
       rw [List.map_append]
       rfl
      ·exact ints_pur _
    ·obtain rfl : n = 11:=by omega
     rw [← hnx]
     refine go1 trivial ?_
     refine ⟨hlt,trivial,Wk.list [1000000,1000001,1000002] rfl rfl ?_⟩
     exact Ag trivial
  ·have e1 : ls.take ls.length = ls:=List.take_length
   have hta:=take_all stE (stepsTo ws p ls)
   rw [e1]
   generalize stepsTo ws p ls = T at *
   refine go1F trivial ?_
   refine fin_wk (wk_frz 4 1000001 (by decide) (by decide) rfl ?_) ?_
   rotate_left
   (conv in hold _=>simp (disch:=omega) only [go_sem,hta,List.length_map,Nat.le_refl])
   ·refine fin_L [] ?_ ?_ rfl ?_
    all_goals exact Ag trivial
   ·exact stE_pur _
noncomputable def stpO (ws : List Int) (p : Pl) : List (Int × List Int):=if PV ws p = 0 then [] else stepsP ws p
theorem StepsFor_ok (p : Pl) (hs : psz p ≤ 1048576) (ws : List Int) (hl : ws.length ≤ 1048576) : Does Tryz.prog 24 [] [pD p,intsD ws] (.sl 2 ((stpO ws p).map stE)) []:=by
 obtain ⟨_,h1,_⟩:=PlanWidth_fn p hs ws hl
 unfold stpO
 by_cases hz : PV ws p = 0
 ·rw [if_pos hz]
  rw [hz] at h1
  refine Bg c_Z117 mixed (go1 trivial ?_)
  refine Uc trivial (h1) (go1 trivial ?_)
  exact Sub.nul 2
 ·rw [if_neg hz]
  obtain ⟨hw,hwf⟩:=PV_wf hz
  have h2:=stepsFor_ok hw hwf
  have hne : (PV ws p == 0) = false:=beq_eq_false_iff_ne.2 hz
  generalize PV ws p = w at *
  generalize stepsP ws p = S at *
  refine Bg c_Z117 mixed (go1 trivial ?_)
  refine Uc @hne (h1) (go1 @hne ?_)
  exact Uc trivial (h2) (go0 trivial)
theorem stpO_mem {ws : List Int} {p : Pl} {s : Int × List Int} (h : s ∈ stpO ws p) : s.2.length ≤ 8 ∧ 1 ≤ s.1 ∧ s.1 ≤ 11:=by
 unfold stpO at h
 split at h
 ·cases h
 ·rename_i hz
  obtain ⟨hw,hwf⟩:=PV_wf hz
  obtain ⟨h1,h2⟩:=stepsP_mem h
  have:=pathsP_short hwf [] s.2 h1
  exact ⟨by simpa using this,h2⟩
theorem stpO_len {ws : List Int} {p : Pl} (hs : psz p ≤ 1048576) : (stpO ws p).length ≤ 20000000:=by
 unfold stpO
 split
 ·exact Nat.zero_le _
 ·have h1:=stepsTo_len ws p (pathsP p [])
  have h2:=pathsP_len p []
  unfold stepsP
  omega
end Go.Proofs.YtgpdmgaemhelgaaGreat
