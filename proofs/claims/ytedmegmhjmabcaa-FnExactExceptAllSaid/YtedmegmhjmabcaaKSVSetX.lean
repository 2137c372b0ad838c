/-
  Common rows and remaining rows at any arguments, the answers trees of one's own. No condition.
-/
import Derived.Test.YtedmegmhjmabcaaKSDca
import Derived.Test.YtedmegmhjmabcaaKSDcd
import Derived.Test.YtedmegmhjmabcaaKSVSetS
import Derived.Test.YtedmegmhjmabcaaKSVClT
import Derived.Test.YtedmegmhjmabcaaKSVMkT
set_option maxHeartbeats 4000000
set_option maxRecDepth 100000
set_option linter.unusedVariables false
set_option linter.unusedSimpArgs false
namespace Go.Proofs.Ytedmegmhjmabcaa
open Go.RowKit
theorem rnk_two (F : List (List V)) (n : Nat) (x : List V) (L : List Nat) : D.rnkL L (F.map rowD ++ List.replicate n (rowD x)) = F.map rowD ++ List.replicate n (rowD x):=rnk_low.rnkL_low L _ (low_pur.lowL_pur _ (D.purL_iff.2 fun d hd=>by
 rcases List.mem_append.1 hd with h | h
 ·obtain ⟨r,_,rfl⟩:=List.mem_map.1 h; rfl
 ·obtain rfl:=List.eq_of_mem_replicate h; rfl))
open Classical in
noncomputable def sameB (a b : Ta) : Bool:=decide (sameT a b)
theorem sameB_t {a b : Ta} (h : sameT a b) : sameB a b = true:=decide_eq_true h
theorem sameB_f {a b : Ta} (h : ¬ sameT a b) : sameB a b = false:=decide_eq_false h
theorem IntersectAll_rc_t {a b : Ta} (hsa : rsz a.rows ≤ 1048576) (hsb : rsz b.rows ≤ 1048576) (h : sameT a b) : RCalls Try.prog 46 [] [taD a,taD b] [⟨0,1,(interR a.rows b.rows).map rowD⟩] 1 (.tup [tK 0 ⟨a.w,interR a.rows b.rows⟩,Bo true]):=by
 have h1:=haveSameWidth_ok a b hsa hsb
 rw [decide_eq_true h] at h1
 obtain ⟨w,hw,hw6,hra,haa,hla⟩:=tOk_nat h.1
 obtain ⟨w',hw',_,hrb,hab,hlb⟩:=tOk_nat h.2.1
 obtain rfl : w = w':=by have:=h.2.2; omega
 obtain ⟨aw,la⟩:=a
 obtain ⟨bw,lb⟩:=b
 simp only at hw hw' hra haa hla hrb hab hlb ⊢
 have h2:=matchedRuns_ok la lb
 have hY:=matched_ok hra hrb hw6.2 haa hab hla hlb
 have hle : ∀ g : List V × Nat,g ∈ grp la → min g.2 (cntE g.1 lb) ≤ g.2:=fun g _=>Nat.min_le_left _ _
 have hil:=flatF_take_len (f:=fun g=>min g.2 (cntE g.1 lb)) hle
 have hsub:=inter_sub la lb
 have hrI:=rsw_sub hsub hra
 have hlI:=hsub.length_le
 have h3:=cloneRows_rc (interR la lb) (fun r hm=>by have:=(hrI r hm).1; omega) (by omega)
 have htk : ((interR la lb).map rowD).take (interR la lb).length = (interR la lb).map rowD:=take_all rowD _
 refine rcT_of c_Z16 mixed ⟨aw,interR la lb⟩ true (Nat.le_of_ble_eq_true rfl) (fun m0=>?_)
 rcases kD_two 0 1 ((interR la lb).map rowD) with k1 | k1
 all_goals (
  conv=>arg 3; whnf
  repeat' (first|with_reducible refine acc_none ?_ | (conv in hold _=>simp (disch:=omega) only [go_sem])|refine Stp.go ?_|(with_reducible first|refine it_pos rfl ?_|refine it_neg (by decide) ?_|refine st_nil rfl ?_|refine s_op ?_ ?_|exact trivial)|((with_reducible first|refine dw_reg0 ?_|refine dw_regB ?_);(conv=>arg 3;whnf))|(refine Spl.go (fun hq he=>?_) (fun hq he=>?_)<;>first|(exfalso;clear hq;omega)|((try first|(conv=>arg 8;simp only [hq])|(conv=>arg 4;simp only [hq]));clear hq))|((with_reducible first|refine c_split (fun hq=>?_) (fun hq=>?_)|refine q_split (fun hq=>?_) (fun hq=>?_))<;>(try first|(conv=>arg 8;simp only [hq])|(conv=>arg 4;simp only [hq])))|(with_reducible refine fin_0 ?_ (by first|rfl|(conv=>lhs;simp only [go_sem])) ?_)|exact Sub.refl _|omega)
  refine c_doesE (h1) ?_ ?_ ?_
  ·((try (conv=>rhs;simp (disch:=omega) only [go_sem])); try rfl)
  ·first|rfl|(conv=>lhs;simp only [go_sem])
  repeat' (first|with_reducible refine acc_none ?_ | (conv in hold _=>simp (disch:=omega) only [go_sem])|refine Stp.go ?_|(with_reducible first|refine it_pos rfl ?_|refine it_neg (by decide) ?_|refine st_nil rfl ?_|refine s_op ?_ ?_|exact trivial)|((with_reducible first|refine dw_reg0 ?_|refine dw_regB ?_);(conv=>arg 3;whnf))|(refine Spl.go (fun hq he=>?_) (fun hq he=>?_)<;>first|(exfalso;clear hq;omega)|((try first|(conv=>arg 8;simp only [hq])|(conv=>arg 4;simp only [hq]));clear hq))|((with_reducible first|refine c_split (fun hq=>?_) (fun hq=>?_)|refine q_split (fun hq=>?_) (fun hq=>?_))<;>(try first|(conv=>arg 8;simp only [hq])|(conv=>arg 4;simp only [hq])))|(with_reducible refine fin_0 ?_ (by first|rfl|(conv=>lhs;simp only [go_sem])) ?_)|exact Sub.refl _|omega)
  refine c_doesE (h2) ?_ ?_ ?_
  ·((try (conv=>rhs;simp (disch:=omega) only [go_sem])); try rfl)
  ·first|rfl|(conv=>lhs;simp only [go_sem])
  repeat' (first|with_reducible refine acc_none ?_ | (conv in hold _=>simp (disch:=omega) only [go_sem])|refine Stp.go ?_|(with_reducible first|refine it_pos rfl ?_|refine it_neg (by decide) ?_|refine st_nil rfl ?_|refine s_op ?_ ?_|exact trivial)|((with_reducible first|refine dw_reg0 ?_|refine dw_regB ?_);(conv=>arg 3;whnf))|(refine Spl.go (fun hq he=>?_) (fun hq he=>?_)<;>first|(exfalso;clear hq;omega)|((try first|(conv=>arg 8;simp only [hq])|(conv=>arg 4;simp only [hq]));clear hq))|((with_reducible first|refine c_split (fun hq=>?_) (fun hq=>?_)|refine q_split (fun hq=>?_) (fun hq=>?_))<;>(try first|(conv=>arg 8;simp only [hq])|(conv=>arg 4;simp only [hq])))|(with_reducible refine fin_0 ?_ (by first|rfl|(conv=>lhs;simp only [go_sem])) ?_)|exact Sub.refl _|omega)
  refine dw_rng 121 [.ptr [rowsD lb],.ptr [.fn 90 []],.ptr [rowsD la]] ((grp la).map (tupM lb)) 4 5 [(2,.ref 1000000 0),(3,.ref 1000001 0),(4,.ref 1000002 0),(6,.ref 1000003 0),(18,.fn 121 [.ptr [rowsD lb],.ptr [.fn 90 []],.ptr [rowsD la]])]
   (fun j=>[(gh,.gho 0 [.fam (famOf (fmB (clF (interR la lb))) 0 m0)] 0 0),(1000000,.obj [I aw,rowsD la]),(1000001,.obj [I bw,rowsD lb]),(1000002,.obj [I 0,.nul]),(1000003,.obj [.own 1000004 1 (flatF (fun g=>min g.2 (cntE g.1 lb)) ((grp la).take j)).length]),(1000004,.row 1 ((flatF (fun g=>min g.2 (cntE g.1 lb)) ((grp la).take j)).map rowD))])
   hY (by kernel_rfl) rfl (Nat.zero_le _) (by decide) (by decide) ?_ (fun j=>namesOK_of rfl) ((wk_rowO 2000006 3000000 1 0 (by decide) (by decide) (by decide) rfl rfl rfl).trans (Wk.listK [2000002,2000003,2000004,2000006,3000000] rfl rfl ?_)) rfl (fun j es h=>by obtain ⟨_,_,rfl⟩:=tupM_at h; rfl) (fun j es h hp=>?_) ?_
  ·simp (disch:=omega) only [go_sem,and_self,Nat.reduceLT]
  ·repeat' (first|(conv in hold _=>simp (disch:=omega) only [go_sem])|exact trivial|exact Sub.refl _|omega)
   first | exact rfl | exact ⟨rfl,rfl⟩ | skip
  ·obtain ⟨g,hg,rfl⟩:=tupM_at h
   have hil1:=hil j
   have hil2:=hil (j + 1)
   have hmn : (min (g.2 : Int) (cntE g.1 lb : Int)).toNat = min g.2 (cntE g.1 lb):=by omega
   have hcl:=cntE_len g.1 lb
   have hnx:=flatF_next (fun g : List V × Nat=>min g.2 (cntE g.1 lb)) hg
   have hgl : g.2 ≤ 400:=by
    have e1:=congrArg List.length (flatF_next (fun g : List V × Nat=>g.2) hg)
    have e2:=flatF_take_len (f:=fun g=>g.2) (l:=la) (fun g _=>Nat.le_refl _) (j + 1)
    rw [e1,List.length_append,List.length_replicate] at e2
    omega
   have ht : ((List.replicate g.2 g.1).map rowD).take (min g.2 (cntE g.1 lb)) = (List.replicate (min g.2 (cntE g.1 lb)) g.1).map rowD:=by
    rw [List.map_replicate,List.map_replicate,List.take_replicate,Nat.min_eq_left (Nat.min_le_left _ _)]
   
   have hnl : (flatF (fun g=>min g.2 (cntE g.1 lb)) ((grp la).take (j + 1))).length = (flatF (fun g=>min g.2 (cntE g.1 lb)) ((grp la).take j)).length + (min g.2 (cntE g.1 lb)):=by rw [hnx,List.length_append,List.length_replicate]
   generalize hF : flatF (fun g=>min g.2 (cntE g.1 lb)) ((grp la).take j) = F at *
   have hmk : (F.map rowD).take F.length = F.map rowD:=take_all rowD F
   repeat' (first|with_reducible refine acc_none ?_ | (conv in hold _=>simp (disch:=omega) only [go_sem,List.length_map,List.length_replicate,hmn,ht,List.map_replicate,List.take_replicate,List.drop_replicate])|refine Stp.go ?_|(with_reducible first|refine it_pos rfl ?_|refine it_neg (by decide) ?_|refine st_nil rfl ?_|refine s_op ?_ ?_|exact trivial)|((with_reducible first|refine dw_reg0 ?_|refine dw_regB ?_);(conv=>arg 3;whnf))|(refine Spl.go (fun hq he=>?_) (fun hq he=>?_)<;>first|(exfalso;clear hq;omega)|((try first|(conv=>arg 8;simp only [hq])|(conv=>arg 4;simp only [hq]));clear hq))|((with_reducible first|refine c_split (fun hq=>?_) (fun hq=>?_)|refine q_split (fun hq=>?_) (fun hq=>?_))<;>(try first|(conv=>arg 8;simp only [hq])|(conv=>arg 4;simp only [hq])))|(with_reducible refine fin_0 ?_ (by first|rfl|(conv=>lhs;simp only [go_sem,List.length_map,List.length_replicate,hmn,ht,List.map_replicate,List.take_replicate,List.drop_replicate])) ?_)|exact Sub.refl _|omega)
   refine Wk.listK [1000000,1000001,1000002,1000003,2000029] rfl rfl ?_
   repeat' (first|(conv in hold _=>simp (disch:=omega) only [go_sem,List.length_map,List.length_replicate,hnl,hmk])|exact trivial|exact Sub.refl _|omega)
   rw [hnx,List.map_append,List.map_replicate]
   have e : min (min g.2 (cntE g.1 lb)) g.2 - 0 = min g.2 (cntE g.1 lb):=by omega
   rw [e]
   refine ⟨?_,?_⟩ <;> first | exact rfl | exact congrArg (D.row 1) (rnk_two F _ _ _).symm
  ·have hen : flatF (fun g=>min g.2 (cntE g.1 lb)) ((grp la).take (grp la).length) = interR la lb:=by rw [List.take_length]; rfl
   repeat' ((fail_if_success (with_reducible first | refine s_call ?_ | refine s_cal ?_ | refine s_inv ?_)); first | with_reducible refine acc_none ?_ | (conv in hold _=>simp (disch:=omega) only [go_sem,hen,List.length_map])|refine Stp.go ?_|(with_reducible first|refine it_pos rfl ?_|refine it_neg (by decide) ?_|refine st_nil rfl ?_|refine s_op ?_ ?_|exact trivial)|((with_reducible first|refine dw_reg0 ?_|refine dw_regB ?_);(conv=>arg 3;whnf))|(refine Spl.go (fun hq he=>?_) (fun hq he=>?_)<;>first|(exfalso;clear hq;omega)|((try first|(conv=>arg 8;simp only [hq])|(conv=>arg 4;simp only [hq]));clear hq))|((with_reducible first|refine c_split (fun hq=>?_) (fun hq=>?_)|refine q_split (fun hq=>?_) (fun hq=>?_))<;>(try first|(conv=>arg 8;simp only [hq])|(conv=>arg 4;simp only [hq])))|(with_reducible refine fin_0 ?_ (by first|rfl|(conv=>lhs;simp only [go_sem,hen,List.length_map])) ?_)|exact Sub.refl _|omega)
   refine s_pre (pre_frz (t:=32) (g:=1000004) (by decide) (by decide) rfl ?_) ?_
   rotate_left
   repeat' ((fail_if_success (with_reducible first | refine s_call ?_ | refine s_cal ?_ | refine s_inv ?_)); first | with_reducible refine acc_none ?_ | (conv in hold _=>simp (disch:=omega) only [go_sem,hen,htk,List.length_map,Nat.le_refl])|refine Stp.go ?_|(with_reducible first|refine it_pos rfl ?_|refine it_neg (by decide) ?_|refine st_nil rfl ?_|refine s_op ?_ ?_|exact trivial)|((with_reducible first|refine dw_reg0 ?_|refine dw_regB ?_);(conv=>arg 3;whnf))|(refine Spl.go (fun hq he=>?_) (fun hq he=>?_)<;>first|(exfalso;clear hq;omega)|((try first|(conv=>arg 8;simp only [hq])|(conv=>arg 4;simp only [hq]));clear hq))|((with_reducible first|refine c_split (fun hq=>?_) (fun hq=>?_)|refine q_split (fun hq=>?_) (fun hq=>?_))<;>(try first|(conv=>arg 8;simp only [hq])|(conv=>arg 4;simp only [hq])))|(with_reducible refine fin_0 ?_ (by first|rfl|(conv=>lhs;simp only [go_sem,hen,htk,List.length_map,Nat.le_refl])) ?_)|exact Sub.refl _|omega)
   refine s_cln h3 (by ((conv=>lhs; simp (disch:=omega) only [go_sem,hen,List.length_map]); try rfl)) (by ((conv=>lhs; simp (disch:=omega) only [go_sem,hen,List.length_map]); try rfl)) k1 ?_
   repeat' (first|with_reducible refine acc_none ?_ | (conv in hold _=>simp (disch:=omega) only [go_sem,hen,List.length_map])|refine Stp.go ?_|(with_reducible first|refine it_pos rfl ?_|refine it_neg (by decide) ?_|refine st_nil rfl ?_|refine s_op ?_ ?_|exact trivial)|((with_reducible first|refine dw_reg0 ?_|refine dw_regB ?_);(conv=>arg 3;whnf))|(refine Spl.go (fun hq he=>?_) (fun hq he=>?_)<;>first|(exfalso;clear hq;omega)|((try first|(conv=>arg 8;simp only [hq])|(conv=>arg 4;simp only [hq]));clear hq))|((with_reducible first|refine c_split (fun hq=>?_) (fun hq=>?_)|refine q_split (fun hq=>?_) (fun hq=>?_))<;>(try first|(conv=>arg 8;simp only [hq])|(conv=>arg 4;simp only [hq])))|(with_reducible refine fin_0 ?_ (by first|rfl|(conv=>lhs;simp only [go_sem,hen,List.length_map])) ?_)|exact Sub.refl _|omega)
   ·refine fin_RC (by ((conv=>lhs; simp (disch:=omega) only [go_sem]); try rfl)) ?_ ?_
    ·repeat' (first|(conv in hold _=>simp (disch:=omega) only [go_sem])|exact trivial|exact Sub.refl _|omega)
    ·unfold tK
     rw [k1]
     (try simp only [List.length_map])
     exact (by ((conv=>lhs; simp (disch:=omega) only [go_sem]); try rfl))
   ·exact rows_pur _
  )
theorem ExceptAll_rc_t {a b : Ta} (hsa : rsz a.rows ≤ 1048576) (hsb : rsz b.rows ≤ 1048576) (h : sameT a b) : RCalls Try.prog 48 [] [taD a,taD b] [⟨0,1,(exceptR a.rows b.rows).map rowD⟩] 1 (.tup [tK 0 ⟨a.w,exceptR a.rows b.rows⟩,Bo true]):=by
 have h1:=haveSameWidth_ok a b hsa hsb
 rw [decide_eq_true h] at h1
 obtain ⟨w,hw,hw6,hra,haa,hla⟩:=tOk_nat h.1
 obtain ⟨w',hw',_,hrb,hab,hlb⟩:=tOk_nat h.2.1
 obtain rfl : w = w':=by have:=h.2.2; omega
 obtain ⟨aw,la⟩:=a
 obtain ⟨bw,lb⟩:=b
 simp only at hw hw' hra haa hla hrb hab hlb ⊢
 have h2:=matchedRuns_ok la lb
 have hY:=matched_ok hra hrb hw6.2 haa hab hla hlb
 have hle : ∀ g : List V × Nat,g ∈ grp la → g.2 - cntE g.1 lb ≤ g.2:=fun g _=>Nat.sub_le _ _
 have hil:=flatF_take_len (f:=fun g=>g.2 - cntE g.1 lb) hle
 have hsub:=except_sub la lb
 have hrI:=rsw_sub hsub hra
 have hlI:=hsub.length_le
 have h3:=cloneRows_rc (exceptR la lb) (fun r hm=>by have:=(hrI r hm).1; omega) (by omega)
 have htk : ((exceptR la lb).map rowD).take (exceptR la lb).length = (exceptR la lb).map rowD:=take_all rowD _
 refine rcT_of c_Z34 mixed ⟨aw,exceptR la lb⟩ true (Nat.le_of_ble_eq_true rfl) (fun m0=>?_)
 rcases kD_two 0 1 ((exceptR la lb).map rowD) with k1 | k1
 all_goals (
  conv=>arg 3; whnf
  repeat' (first|with_reducible refine acc_none ?_ | (conv in hold _=>simp (disch:=omega) only [go_sem])|refine Stp.go ?_|(with_reducible first|refine it_pos rfl ?_|refine it_neg (by decide) ?_|refine st_nil rfl ?_|refine s_op ?_ ?_|exact trivial)|((with_reducible first|refine dw_reg0 ?_|refine dw_regB ?_);(conv=>arg 3;whnf))|(refine Spl.go (fun hq he=>?_) (fun hq he=>?_)<;>first|(exfalso;clear hq;omega)|((try first|(conv=>arg 8;simp only [hq])|(conv=>arg 4;simp only [hq]));clear hq))|((with_reducible first|refine c_split (fun hq=>?_) (fun hq=>?_)|refine q_split (fun hq=>?_) (fun hq=>?_))<;>(try first|(conv=>arg 8;simp only [hq])|(conv=>arg 4;simp only [hq])))|(with_reducible refine fin_0 ?_ (by first|rfl|(conv=>lhs;simp only [go_sem])) ?_)|exact Sub.refl _|omega)
  refine c_doesE (h1) ?_ ?_ ?_
  ·((try (conv=>rhs;simp (disch:=omega) only [go_sem])); try rfl)
  ·first|rfl|(conv=>lhs;simp only [go_sem])
  repeat' (first|with_reducible refine acc_none ?_ | (conv in hold _=>simp (disch:=omega) only [go_sem])|refine Stp.go ?_|(with_reducible first|refine it_pos rfl ?_|refine it_neg (by decide) ?_|refine st_nil rfl ?_|refine s_op ?_ ?_|exact trivial)|((with_reducible first|refine dw_reg0 ?_|refine dw_regB ?_);(conv=>arg 3;whnf))|(refine Spl.go (fun hq he=>?_) (fun hq he=>?_)<;>first|(exfalso;clear hq;omega)|((try first|(conv=>arg 8;simp only [hq])|(conv=>arg 4;simp only [hq]));clear hq))|((with_reducible first|refine c_split (fun hq=>?_) (fun hq=>?_)|refine q_split (fun hq=>?_) (fun hq=>?_))<;>(try first|(conv=>arg 8;simp only [hq])|(conv=>arg 4;simp only [hq])))|(with_reducible refine fin_0 ?_ (by first|rfl|(conv=>lhs;simp only [go_sem])) ?_)|exact Sub.refl _|omega)
  refine c_doesE (h2) ?_ ?_ ?_
  ·((try (conv=>rhs;simp (disch:=omega) only [go_sem])); try rfl)
  ·first|rfl|(conv=>lhs;simp only [go_sem])
  repeat' (first|with_reducible refine acc_none ?_ | (conv in hold _=>simp (disch:=omega) only [go_sem])|refine Stp.go ?_|(with_reducible first|refine it_pos rfl ?_|refine it_neg (by decide) ?_|refine st_nil rfl ?_|refine s_op ?_ ?_|exact trivial)|((with_reducible first|refine dw_reg0 ?_|refine dw_regB ?_);(conv=>arg 3;whnf))|(refine Spl.go (fun hq he=>?_) (fun hq he=>?_)<;>first|(exfalso;clear hq;omega)|((try first|(conv=>arg 8;simp only [hq])|(conv=>arg 4;simp only [hq]));clear hq))|((with_reducible first|refine c_split (fun hq=>?_) (fun hq=>?_)|refine q_split (fun hq=>?_) (fun hq=>?_))<;>(try first|(conv=>arg 8;simp only [hq])|(conv=>arg 4;simp only [hq])))|(with_reducible refine fin_0 ?_ (by first|rfl|(conv=>lhs;simp only [go_sem])) ?_)|exact Sub.refl _|omega)
  refine dw_rng 121 [.ptr [rowsD lb],.ptr [.fn 90 []],.ptr [rowsD la]] ((grp la).map (tupM lb)) 4 5 [(2,.ref 1000000 0),(3,.ref 1000001 0),(4,.ref 1000002 0),(6,.ref 1000003 0),(18,.fn 121 [.ptr [rowsD lb],.ptr [.fn 90 []],.ptr [rowsD la]])]
   (fun j=>[(gh,.gho 0 [.fam (famOf (fmB (clF (exceptR la lb))) 0 m0)] 0 0),(1000000,.obj [I aw,rowsD la]),(1000001,.obj [I bw,rowsD lb]),(1000002,.obj [I 0,.nul]),(1000003,.obj [.own 1000004 1 (flatF (fun g=>g.2 - cntE g.1 lb) ((grp la).take j)).length]),(1000004,.row 1 ((flatF (fun g=>g.2 - cntE g.1 lb) ((grp la).take j)).map rowD))])
   hY (by kernel_rfl) rfl (Nat.zero_le _) (by decide) (by decide) ?_ (fun j=>namesOK_of rfl) ((wk_rowO 2000006 3000000 1 0 (by decide) (by decide) (by decide) rfl rfl rfl).trans (Wk.listK [2000002,2000003,2000004,2000006,3000000] rfl rfl ?_)) rfl (fun j es h=>by obtain ⟨_,_,rfl⟩:=tupM_at h; rfl) (fun j es h hp=>?_) ?_
  ·simp (disch:=omega) only [go_sem,and_self,Nat.reduceLT]
  ·repeat' (first|(conv in hold _=>simp (disch:=omega) only [go_sem])|exact trivial|exact Sub.refl _|omega)
   first | exact rfl | exact ⟨rfl,rfl⟩ | skip
  ·obtain ⟨g,hg,rfl⟩:=tupM_at h
   have hil1:=hil j
   have hil2:=hil (j + 1)
   have hmn : (min (g.2 : Int) (cntE g.1 lb : Int)).toNat = min g.2 (cntE g.1 lb):=by omega
   have hcl:=cntE_len g.1 lb
   have hnx:=flatF_next (fun g : List V × Nat=>g.2 - cntE g.1 lb) hg
   have hgl : g.2 ≤ 400:=by
    have e1:=congrArg List.length (flatF_next (fun g : List V × Nat=>g.2) hg)
    have e2:=flatF_take_len (f:=fun g=>g.2) (l:=la) (fun g _=>Nat.le_refl _) (j + 1)
    rw [e1,List.length_append,List.length_replicate] at e2
    omega
   have ht : ((List.replicate g.2 g.1).map rowD).drop (min g.2 (cntE g.1 lb)) = (List.replicate (g.2 - cntE g.1 lb) g.1).map rowD:=by
    rw [List.map_replicate,List.map_replicate,List.drop_replicate]
    congr 1; omega
   have hnl : (flatF (fun g=>g.2 - cntE g.1 lb) ((grp la).take (j + 1))).length = (flatF (fun g=>g.2 - cntE g.1 lb) ((grp la).take j)).length + (g.2 - cntE g.1 lb):=by rw [hnx,List.length_append,List.length_replicate]
   generalize hF : flatF (fun g=>g.2 - cntE g.1 lb) ((grp la).take j) = F at *
   have hmk : (F.map rowD).take F.length = F.map rowD:=take_all rowD F
   repeat' (first|with_reducible refine acc_none ?_ | (conv in hold _=>simp (disch:=omega) only [go_sem,List.length_map,List.length_replicate,hmn,ht,List.map_replicate,List.take_replicate,List.drop_replicate])|refine Stp.go ?_|(with_reducible first|refine it_pos rfl ?_|refine it_neg (by decide) ?_|refine st_nil rfl ?_|refine s_op ?_ ?_|exact trivial)|((with_reducible first|refine dw_reg0 ?_|refine dw_regB ?_);(conv=>arg 3;whnf))|(refine Spl.go (fun hq he=>?_) (fun hq he=>?_)<;>first|(exfalso;clear hq;omega)|((try first|(conv=>arg 8;simp only [hq])|(conv=>arg 4;simp only [hq]));clear hq))|((with_reducible first|refine c_split (fun hq=>?_) (fun hq=>?_)|refine q_split (fun hq=>?_) (fun hq=>?_))<;>(try first|(conv=>arg 8;simp only [hq])|(conv=>arg 4;simp only [hq])))|(with_reducible refine fin_0 ?_ (by first|rfl|(conv=>lhs;simp only [go_sem,List.length_map,List.length_replicate,hmn,ht,List.map_replicate,List.take_replicate,List.drop_replicate])) ?_)|exact Sub.refl _|omega)
   refine Wk.listK [1000000,1000001,1000002,1000003,2000029] rfl rfl ?_
   repeat' (first|(conv in hold _=>simp (disch:=omega) only [go_sem,List.length_map,List.length_replicate,hnl,hmk])|exact trivial|exact Sub.refl _|omega)
   rw [hnx,List.map_append,List.map_replicate]
   have e : g.2 - min g.2 (cntE g.1 lb) = g.2 - cntE g.1 lb:=by omega
   have e2 : min g.2 g.2 - min g.2 (cntE g.1 lb) = g.2 - cntE g.1 lb:=by omega
   refine ⟨?_,?_⟩ <;> first | exact rfl | (simp only [e]; done) | (simp only [e2]; done) | (simp only [e]; first | exact rfl | exact congrArg (D.row 1) (rnk_two F _ _ _).symm) | (simp only [e2]; first | exact rfl | exact congrArg (D.row 1) (rnk_two F _ _ _).symm)
  ·have hen : flatF (fun g=>g.2 - cntE g.1 lb) ((grp la).take (grp la).length) = exceptR la lb:=by rw [List.take_length]; rfl
   repeat' ((fail_if_success (with_reducible first | refine s_call ?_ | refine s_cal ?_ | refine s_inv ?_)); first | with_reducible refine acc_none ?_ | (conv in hold _=>simp (disch:=omega) only [go_sem,hen,List.length_map])|refine Stp.go ?_|(with_reducible first|refine it_pos rfl ?_|refine it_neg (by decide) ?_|refine st_nil rfl ?_|refine s_op ?_ ?_|exact trivial)|((with_reducible first|refine dw_reg0 ?_|refine dw_regB ?_);(conv=>arg 3;whnf))|(refine Spl.go (fun hq he=>?_) (fun hq he=>?_)<;>first|(exfalso;clear hq;omega)|((try first|(conv=>arg 8;simp only [hq])|(conv=>arg 4;simp only [hq]));clear hq))|((with_reducible first|refine c_split (fun hq=>?_) (fun hq=>?_)|refine q_split (fun hq=>?_) (fun hq=>?_))<;>(try first|(conv=>arg 8;simp only [hq])|(conv=>arg 4;simp only [hq])))|(with_reducible refine fin_0 ?_ (by first|rfl|(conv=>lhs;simp only [go_sem,hen,List.length_map])) ?_)|exact Sub.refl _|omega)
   refine s_pre (pre_frz (t:=32) (g:=1000004) (by decide) (by decide) rfl ?_) ?_
   rotate_left
   repeat' ((fail_if_success (with_reducible first | refine s_call ?_ | refine s_cal ?_ | refine s_inv ?_)); first | with_reducible refine acc_none ?_ | (conv in hold _=>simp (disch:=omega) only [go_sem,hen,htk,List.length_map,Nat.le_refl])|refine Stp.go ?_|(with_reducible first|refine it_pos rfl ?_|refine it_neg (by decide) ?_|refine st_nil rfl ?_|refine s_op ?_ ?_|exact trivial)|((with_reducible first|refine dw_reg0 ?_|refine dw_regB ?_);(conv=>arg 3;whnf))|(refine Spl.go (fun hq he=>?_) (fun hq he=>?_)<;>first|(exfalso;clear hq;omega)|((try first|(conv=>arg 8;simp only [hq])|(conv=>arg 4;simp only [hq]));clear hq))|((with_reducible first|refine c_split (fun hq=>?_) (fun hq=>?_)|refine q_split (fun hq=>?_) (fun hq=>?_))<;>(try first|(conv=>arg 8;simp only [hq])|(conv=>arg 4;simp only [hq])))|(with_reducible refine fin_0 ?_ (by first|rfl|(conv=>lhs;simp only [go_sem,hen,htk,List.length_map,Nat.le_refl])) ?_)|exact Sub.refl _|omega)
   refine s_cln h3 (by ((conv=>lhs; simp (disch:=omega) only [go_sem,hen,List.length_map]); try rfl)) (by ((conv=>lhs; simp (disch:=omega) only [go_sem,hen,List.length_map]); try rfl)) k1 ?_
   repeat' (first|with_reducible refine acc_none ?_ | (conv in hold _=>simp (disch:=omega) only [go_sem,hen,List.length_map])|refine Stp.go ?_|(with_reducible first|refine it_pos rfl ?_|refine it_neg (by decide) ?_|refine st_nil rfl ?_|refine s_op ?_ ?_|exact trivial)|((with_reducible first|refine dw_reg0 ?_|refine dw_regB ?_);(conv=>arg 3;whnf))|(refine Spl.go (fun hq he=>?_) (fun hq he=>?_)<;>first|(exfalso;clear hq;omega)|((try first|(conv=>arg 8;simp only [hq])|(conv=>arg 4;simp only [hq]));clear hq))|((with_reducible first|refine c_split (fun hq=>?_) (fun hq=>?_)|refine q_split (fun hq=>?_) (fun hq=>?_))<;>(try first|(conv=>arg 8;simp only [hq])|(conv=>arg 4;simp only [hq])))|(with_reducible refine fin_0 ?_ (by first|rfl|(conv=>lhs;simp only [go_sem,hen,List.length_map])) ?_)|exact Sub.refl _|omega)
   ·refine fin_RC (by ((conv=>lhs; simp (disch:=omega) only [go_sem]); try rfl)) ?_ ?_
    ·repeat' (first|(conv in hold _=>simp (disch:=omega) only [go_sem])|exact trivial|exact Sub.refl _|omega)
    ·unfold tK
     rw [k1]
     (try simp only [List.length_map])
     exact (by ((conv=>lhs; simp (disch:=omega) only [go_sem]); try rfl))
   ·exact rows_pur _
  )
open Classical in
noncomputable def interRA (a b : Ta) : Ta:=if sameT a b then ⟨a.w,interR a.rows b.rows⟩ else ⟨0,[]⟩
theorem interRA_t {a b : Ta} (h : sameT a b) : interRA a b = ⟨a.w,interR a.rows b.rows⟩:=if_pos h
theorem interRA_f {a b : Ta} (h : ¬ sameT a b) : interRA a b = ⟨0,[]⟩:=if_neg h
theorem IntersectAll_spec (a b : Ta) (ha : rsz a.rows ≤ 1048576) (hb : rsz b.rows ≤ 1048576) : Does Try.prog 45 [] [taD a,taD b] (.tup [taD (interRA a b),Bo (sameB a b)]) []:=by
 by_cases h : sameT a b
 ·rw [interRA_t h,sameB_t h]; exact IntersectAll_spec_t ha hb h
 ·rw [interRA_f h,sameB_f h]; exact IntersectAll_spec_f ha hb h
theorem IntersectAll_impl (a b : Ta) (ha : rsz a.rows ≤ 1048576) (hb : rsz b.rows ≤ 1048576) : Does Try.prog 46 [] [taD a,taD b] (.tup [taD (interRA a b),Bo (sameB a b)]) []:=by
 by_cases h : sameT a b
 ·rw [interRA_t h,sameB_t h]; exact IntersectAll_impl_t ha hb h
 ·rw [interRA_f h,sameB_f h]; exact IntersectAll_impl_f ha hb h
theorem IntersectAll_rc (a b : Ta) (ha : rsz a.rows ≤ 1048576) (hb : rsz b.rows ≤ 1048576) : RCalls Try.prog 46 [] [taD a,taD b] [⟨0,1,(interRA a b).rows.map rowD⟩] 1 (.tup [tK 0 (interRA a b),Bo (sameB a b)]):=by
 by_cases h : sameT a b
 ·rw [interRA_t h,sameB_t h]; exact IntersectAll_rc_t ha hb h
 ·rw [interRA_f h,sameB_f h]
  exact (rcalls_nil (post:=[⟨0,1,[]⟩]) (top':=0) (IntersectAll_impl_f ha hb h) rfl rfl (fun it hit=>by obtain rfl:=List.mem_singleton.1 hit; rfl)).top (by omega)
open Classical in
noncomputable def exceptRA (a b : Ta) : Ta:=if sameT a b then ⟨a.w,exceptR a.rows b.rows⟩ else ⟨0,[]⟩
theorem exceptRA_t {a b : Ta} (h : sameT a b) : exceptRA a b = ⟨a.w,exceptR a.rows b.rows⟩:=if_pos h
theorem exceptRA_f {a b : Ta} (h : ¬ sameT a b) : exceptRA a b = ⟨0,[]⟩:=if_neg h
theorem ExceptAll_spec (a b : Ta) (ha : rsz a.rows ≤ 1048576) (hb : rsz b.rows ≤ 1048576) : Does Try.prog 47 [] [taD a,taD b] (.tup [taD (exceptRA a b),Bo (sameB a b)]) []:=by
 by_cases h : sameT a b
 ·rw [exceptRA_t h,sameB_t h]; exact ExceptAll_spec_t ha hb h
 ·rw [exceptRA_f h,sameB_f h]; exact ExceptAll_spec_f ha hb h
theorem ExceptAll_impl (a b : Ta) (ha : rsz a.rows ≤ 1048576) (hb : rsz b.rows ≤ 1048576) : Does Try.prog 48 [] [taD a,taD b] (.tup [taD (exceptRA a b),Bo (sameB a b)]) []:=by
 by_cases h : sameT a b
 ·rw [exceptRA_t h,sameB_t h]; exact ExceptAll_impl_t ha hb h
 ·rw [exceptRA_f h,sameB_f h]; exact ExceptAll_impl_f ha hb h
theorem ExceptAll_rc (a b : Ta) (ha : rsz a.rows ≤ 1048576) (hb : rsz b.rows ≤ 1048576) : RCalls Try.prog 48 [] [taD a,taD b] [⟨0,1,(exceptRA a b).rows.map rowD⟩] 1 (.tup [tK 0 (exceptRA a b),Bo (sameB a b)]):=by
 by_cases h : sameT a b
 ·rw [exceptRA_t h,sameB_t h]; exact ExceptAll_rc_t ha hb h
 ·rw [exceptRA_f h,sameB_f h]
  exact (rcalls_nil (post:=[⟨0,1,[]⟩]) (top':=0) (ExceptAll_impl_f ha hb h) rfl rfl (fun it hit=>by obtain rfl:=List.mem_singleton.1 hit; rfl)).top (by omega)
theorem interR_sz (a b : Ta) (ha : rsz a.rows ≤ 1048576) : rsz (interRA a b).rows ≤ 1048576:=by
 by_cases h : sameT a b
 ·rw [interRA_t h]; exact Nat.le_trans (rsz_sub (inter_sub a.rows b.rows)) ha
 ·rw [interRA_f h]; exact Nat.zero_le _
theorem exceptR_sz (a b : Ta) (ha : rsz a.rows ≤ 1048576) : rsz (exceptRA a b).rows ≤ 1048576:=by
 by_cases h : sameT a b
 ·rw [exceptRA_t h]; exact Nat.le_trans (rsz_sub (except_sub a.rows b.rows)) ha
 ·rw [exceptRA_f h]; exact Nat.zero_le _
end Go.Proofs.Ytedmegmhjmabcaa
