/-
  Common rows, remaining rows, subtables, as the program does. No condition.
-/
import Derived.Test.YtedmegmhjmabcaaKSDca
import Derived.Test.YtedmegmhjmabcaaKSDcd
import Derived.Test.YtedmegmhjmabcaaKSVRun
import Derived.Test.YtedmegmhjmabcaaKSVUni
import Derived.Test.YtedmegmhjmabcaaJSVGo
set_option maxHeartbeats 4000000
set_option maxRecDepth 100000
set_option linter.unusedVariables false
set_option linter.unusedSimpArgs false
namespace Go.Proofs.Ytedmegmhjmabcaa
open Go.RowKit
theorem flatF_next (f : List V × Nat → Nat) {gs : List (List V × Nat)} {i : Nat} {g : List V × Nat} (h : gs[i]? = some g) : flatF f (gs.take (i + 1)) = flatF f (gs.take i) ++ List.replicate (f g) g.1:=by
 rw [take_next h,flatF_app,flatF_cons]
 show _ ++ (_ ++ []) = _
 rw [List.append_nil]
theorem flatF_take_len {f : List V × Nat → Nat} {l : List (List V)} (h : ∀ g,g ∈ grp l → f g ≤ g.2) (i : Nat) : (flatF f ((grp l).take i)).length ≤ l.length:=by
 have h1 : (flatF f ((grp l).take i)).Sublist (flatF f (grp l)):=by
  conv=>rhs; rw [← List.take_append_drop i (grp l),flatF_app]
  exact List.sublist_append_left ..
 exact Nat.le_trans h1.length_le (flatF_len_le h)
theorem IntersectAll_impl_t {a b : Ta} (hsa : rsz a.rows ≤ 1048576) (hsb : rsz b.rows ≤ 1048576) (h : sameT a b) : Does Try.prog 46 [] [taD a,taD b] (.tup [taD ⟨a.w,interR a.rows b.rows⟩,Bo true]) []:=by
 have h1:=haveSameWidth_ok a b hsa hsb
 rw [decide_eq_true h] at h1
 obtain ⟨w,hw,hw6,hra,haa,hla⟩:=tOk_nat h.1
 obtain ⟨w',hw',_,hrb,hab,hlb⟩:=tOk_nat h.2.1
 obtain rfl : w = w':=by have:=h.2.2; omega
 obtain ⟨aw,la⟩:=a
 obtain ⟨bw,lb⟩:=b
 simp only at hw hw' hra haa hla hrb hab hlb ⊢
 have h2:=matchedRuns_ok la lb
 have hY:=matched_ok hra hrb hw6.2 haa hab hla hlb
 have hle : ∀ g : List V × Nat,g ∈ grp la → min g.2 (cntE g.1 lb) ≤ g.2:=fun g _=>Nat.min_le_left _ _
 have hil:=flatF_take_len (f:=fun g=>min g.2 (cntE g.1 lb)) hle
 have hsub:=inter_sub la lb
 have hrI:=rsw_sub hsub hra
 have hlI:=hsub.length_le
 have h3:=cloneRows_own (interR la lb) (fun r hm=>by have:=(hrI r hm).1; omega) (by omega)
 have htk : ((interR la lb).map rowD).take (interR la lb).length = (interR la lb).map rowD:=take_all rowD _
 refine Bg c_Z16 mixed (go1F trivial ?_)
 refine Uc trivial (h1) (go1F trivial ?_)
 refine Uc trivial (h2) (go1F trivial ?_)
 refine dw_rng 121 [.ptr [rowsD lb],.ptr [.fn 90 []],.ptr [rowsD la]] ((grp la).map (tupM lb)) 4 5 [(2,.ref 1000000 0),(3,.ref 1000001 0),(4,.ref 1000002 0),(6,.ref 1000003 0),(18,.fn 121 [.ptr [rowsD lb],.ptr [.fn 90 []],.ptr [rowsD la]])]
  (fun j=>[(1000000,.obj [I aw,rowsD la]),(1000001,.obj [I bw,rowsD lb]),(1000002,.obj [I 0,.nul]),(1000003,.obj [.own 1000004 1 (flatF (fun g=>min g.2 (cntE g.1 lb)) ((grp la).take j)).length]),(1000004,.row 1 ((flatF (fun g=>min g.2 (cntE g.1 lb)) ((grp la).take j)).map rowD))])
  hY (by kernel_rfl) rfl (Nat.zero_le _) (by decide) (by decide) ?_ (fun j=>namesOK_of rfl) ((wk_rowO 2000006 3000000 1 0 (by decide) (by decide) (by decide) rfl rfl rfl).trans (Wk.list [2000002,2000003,2000004,2000006,3000000] rfl rfl ?_)) rfl (fun j es h=>by obtain ⟨_,_,rfl⟩:=tupM_at h; rfl) (fun j es h hp=>?_) ?_
 ·simp (disch:=omega) only [go_sem,and_self,Nat.reduceLT]
 ·repeat' (first|(conv in hold _=>simp (disch:=omega) only [go_sem])|exact trivial|exact Sub.refl _|omega)
  first | exact rfl | exact ⟨rfl,rfl⟩ | skip
 ·obtain ⟨g,hg,rfl⟩:=tupM_at h
  have hil1:=hil j
  have hil2:=hil (j + 1)
  have hmn : (min (g.2 : Int) (cntE g.1 lb : Int)).toNat = min g.2 (cntE g.1 lb):=by omega
  have hcl:=cntE_len g.1 lb
  have hnx:=flatF_next (fun g : List V × Nat=>min g.2 (cntE g.1 lb)) hg
  have hgl : g.2 ≤ 400:=by
   have e1:=congrArg List.length (flatF_next (fun g : List V × Nat=>g.2) hg)
   have e2:=flatF_take_len (f:=fun g=>g.2) (l:=la) (fun g _=>Nat.le_refl _) (j + 1)
   rw [e1,List.length_append,List.length_replicate] at e2
   omega
  have ht : ((List.replicate g.2 g.1).map rowD).take (min g.2 (cntE g.1 lb)) = (List.replicate (min g.2 (cntE g.1 lb)) g.1).map rowD:=by
   rw [List.map_replicate,List.map_replicate,List.take_replicate,Nat.min_eq_left (Nat.min_le_left _ _)]
   
  have hnl : (flatF (fun g=>min g.2 (cntE g.1 lb)) ((grp la).take (j + 1))).length = (flatF (fun g=>min g.2 (cntE g.1 lb)) ((grp la).take j)).length + (min g.2 (cntE g.1 lb)):=by rw [hnx,List.length_append,List.length_replicate]
  generalize hF : flatF (fun g=>min g.2 (cntE g.1 lb)) ((grp la).take j) = F at *
  have hmk : (F.map rowD).take F.length = F.map rowD:=take_all rowD F
  repeat' (first|with_reducible refine acc_none ?_ | (conv in hold _=>simp (disch:=omega) only [go_sem,List.length_map,List.length_replicate,hmn,ht,List.map_replicate,List.take_replicate,List.drop_replicate])|refine Stp.go ?_|(with_reducible first|refine it_pos rfl ?_|refine it_neg (by decide) ?_|refine st_nil rfl ?_|refine s_op ?_ ?_|exact trivial)|((with_reducible first|refine dw_reg0 ?_|refine dw_regB ?_);(conv=>arg 3;whnf))|(refine Spl.go (fun hq he=>?_) (fun hq he=>?_)<;>first|(exfalso;clear hq;omega)|((try first|(conv=>arg 8;simp only [hq])|(conv=>arg 4;simp only [hq]));clear hq))|((with_reducible first|refine c_split (fun hq=>?_) (fun hq=>?_)|refine q_split (fun hq=>?_) (fun hq=>?_))<;>(try first|(conv=>arg 8;simp only [hq])|(conv=>arg 4;simp only [hq])))|exact Sub.refl _|omega)
  refine Wk.list [1000000,1000001,1000002,1000003,2000029] rfl rfl ?_
  repeat' (first|(conv in hold _=>simp (disch:=omega) only [go_sem,List.length_map,List.length_replicate,hnl,hmk])|exact trivial|exact Sub.refl _|omega)
  rw [hnx,List.map_append,List.map_replicate]
  have e : min (min g.2 (cntE g.1 lb)) g.2 - 0 = min g.2 (cntE g.1 lb):=by omega
  rw [e]
  refine ⟨?_,?_⟩ <;> first | exact rfl
 ·have hen : flatF (fun g=>min g.2 (cntE g.1 lb)) ((grp la).take (grp la).length) = interR la lb:=by rw [List.take_length]; rfl
  refine go1FC @hen ?_
  refine s_pre (pre_frz (t:=32) (g:=1000004) (by decide) (by decide) rfl ?_) ?_
  rotate_left
  refine go1F (cj2 @hen @htk) ?_
  refine c_doesR [3000001] (h3) (callOK_of rfl (Nat.le_of_ble_eq_true rfl) rfl ?_ ?_) ?_ ?_
  ·repeat' (first|(conv in hold _=>simp (disch:=omega) only [go_sem,hen,List.length_map])|exact trivial|exact Sub.refl _|omega)
  ·repeat' (first|(conv in hold _=>simp (disch:=omega) only [go_sem,hen,List.length_map])|exact trivial|exact Sub.refl _|omega)
  ·((conv=>rhs;simp (disch:=omega) only [go_sem,hen,List.length_map]); try rfl)
  repeat' (first|with_reducible refine acc_none ?_ | (conv in hold _=>simp (disch:=omega) only [go_sem,hen,List.length_map])|refine Stp.go ?_|(with_reducible first|refine it_pos rfl ?_|refine it_neg (by decide) ?_|refine st_nil rfl ?_|refine s_op ?_ ?_|exact trivial)|((with_reducible first|refine dw_reg0 ?_|refine dw_regB ?_);(conv=>arg 3;whnf))|(refine Spl.go (fun hq he=>?_) (fun hq he=>?_)<;>first|(exfalso;clear hq;omega)|((try first|(conv=>arg 8;simp only [hq])|(conv=>arg 4;simp only [hq]));clear hq))|((with_reducible first|refine c_split (fun hq=>?_) (fun hq=>?_)|refine q_split (fun hq=>?_) (fun hq=>?_))<;>(try first|(conv=>arg 8;simp only [hq])|(conv=>arg 4;simp only [hq])))|exact Sub.refl _|omega)
  ·refine fin_wk (wk_frzO 1000002 3000001 (by decide) (by decide) rfl (by decide) rfl ?_) ?_
   rotate_left
   (conv in hold _=>simp (disch:=omega) only [go_sem,htk,List.length_map,Nat.le_refl])
   ·refine fin_L [] ?_ ?_ rfl ?_
    repeat' (first|(conv in hold _=>simp (disch:=omega) only [go_sem])|exact trivial|exact Sub.refl _|omega)
   ·exact rows_pur _
  ·exact rows_pur _
theorem ExceptAll_impl_t {a b : Ta} (hsa : rsz a.rows ≤ 1048576) (hsb : rsz b.rows ≤ 1048576) (h : sameT a b) : Does Try.prog 48 [] [taD a,taD b] (.tup [taD ⟨a.w,exceptR a.rows b.rows⟩,Bo true]) []:=by
 have h1:=haveSameWidth_ok a b hsa hsb
 rw [decide_eq_true h] at h1
 obtain ⟨w,hw,hw6,hra,haa,hla⟩:=tOk_nat h.1
 obtain ⟨w',hw',_,hrb,hab,hlb⟩:=tOk_nat h.2.1
 obtain rfl : w = w':=by have:=h.2.2; omega
 obtain ⟨aw,la⟩:=a
 obtain ⟨bw,lb⟩:=b
 simp only at hw hw' hra haa hla hrb hab hlb ⊢
 have h2:=matchedRuns_ok la lb
 have hY:=matched_ok hra hrb hw6.2 haa hab hla hlb
 have hle : ∀ g : List V × Nat,g ∈ grp la → g.2 - cntE g.1 lb ≤ g.2:=fun g _=>Nat.sub_le _ _
 have hil:=flatF_take_len (f:=fun g=>g.2 - cntE g.1 lb) hle
 have hsub:=except_sub la lb
 have hrI:=rsw_sub hsub hra
 have hlI:=hsub.length_le
 have h3:=cloneRows_own (exceptR la lb) (fun r hm=>by have:=(hrI r hm).1; omega) (by omega)
 have htk : ((exceptR la lb).map rowD).take (exceptR la lb).length = (exceptR la lb).map rowD:=take_all rowD _
 refine Bg c_Z34 mixed (go1F trivial ?_)
 refine Uc trivial (h1) (go1F trivial ?_)
 refine Uc trivial (h2) (go1F trivial ?_)
 refine dw_rng 121 [.ptr [rowsD lb],.ptr [.fn 90 []],.ptr [rowsD la]] ((grp la).map (tupM lb)) 4 5 [(2,.ref 1000000 0),(3,.ref 1000001 0),(4,.ref 1000002 0),(6,.ref 1000003 0),(18,.fn 121 [.ptr [rowsD lb],.ptr [.fn 90 []],.ptr [rowsD la]])]
  (fun j=>[(1000000,.obj [I aw,rowsD la]),(1000001,.obj [I bw,rowsD lb]),(1000002,.obj [I 0,.nul]),(1000003,.obj [.own 1000004 1 (flatF (fun g=>g.2 - cntE g.1 lb) ((grp la).take j)).length]),(1000004,.row 1 ((flatF (fun g=>g.2 - cntE g.1 lb) ((grp la).take j)).map rowD))])
  hY (by kernel_rfl) rfl (Nat.zero_le _) (by decide) (by decide) ?_ (fun j=>namesOK_of rfl) ((wk_rowO 2000006 3000000 1 0 (by decide) (by decide) (by decide) rfl rfl rfl).trans (Wk.list [2000002,2000003,2000004,2000006,3000000] rfl rfl ?_)) rfl (fun j es h=>by obtain ⟨_,_,rfl⟩:=tupM_at h; rfl) (fun j es h hp=>?_) ?_
 ·simp (disch:=omega) only [go_sem,and_self,Nat.reduceLT]
 ·repeat' (first|(conv in hold _=>simp (disch:=omega) only [go_sem])|exact trivial|exact Sub.refl _|omega)
  first | exact rfl | exact ⟨rfl,rfl⟩ | skip
 ·obtain ⟨g,hg,rfl⟩:=tupM_at h
  have hil1:=hil j
  have hil2:=hil (j + 1)
  have hmn : (min (g.2 : Int) (cntE g.1 lb : Int)).toNat = min g.2 (cntE g.1 lb):=by omega
  have hcl:=cntE_len g.1 lb
  have hnx:=flatF_next (fun g : List V × Nat=>g.2 - cntE g.1 lb) hg
  have hgl : g.2 ≤ 400:=by
   have e1:=congrArg List.length (flatF_next (fun g : List V × Nat=>g.2) hg)
   have e2:=flatF_take_len (f:=fun g=>g.2) (l:=la) (fun g _=>Nat.le_refl _) (j + 1)
   rw [e1,List.length_append,List.length_replicate] at e2
   omega
  have ht : ((List.replicate g.2 g.1).map rowD).drop (min g.2 (cntE g.1 lb)) = (List.replicate (g.2 - cntE g.1 lb) g.1).map rowD:=by
   rw [List.map_replicate,List.map_replicate,List.drop_replicate]
   congr 1; omega
  have hnl : (flatF (fun g=>g.2 - cntE g.1 lb) ((grp la).take (j + 1))).length = (flatF (fun g=>g.2 - cntE g.1 lb) ((grp la).take j)).length + (g.2 - cntE g.1 lb):=by rw [hnx,List.length_append,List.length_replicate]
  generalize hF : flatF (fun g=>g.2 - cntE g.1 lb) ((grp la).take j) = F at *
  have hmk : (F.map rowD).take F.length = F.map rowD:=take_all rowD F
  repeat' (first|with_reducible refine acc_none ?_ | (conv in hold _=>simp (disch:=omega) only [go_sem,List.length_map,List.length_replicate,hmn,ht,List.map_replicate,List.take_replicate,List.drop_replicate])|refine Stp.go ?_|(with_reducible first|refine it_pos rfl ?_|refine it_neg (by decide) ?_|refine st_nil rfl ?_|refine s_op ?_ ?_|exact trivial)|((with_reducible first|refine dw_reg0 ?_|refine dw_regB ?_);(conv=>arg 3;whnf))|(refine Spl.go (fun hq he=>?_) (fun hq he=>?_)<;>first|(exfalso;clear hq;omega)|((try first|(conv=>arg 8;simp only [hq])|(conv=>arg 4;simp only [hq]));clear hq))|((with_reducible first|refine c_split (fun hq=>?_) (fun hq=>?_)|refine q_split (fun hq=>?_) (fun hq=>?_))<;>(try first|(conv=>arg 8;simp only [hq])|(conv=>arg 4;simp only [hq])))|exact Sub.refl _|omega)
  refine Wk.list [1000000,1000001,1000002,1000003,2000029] rfl rfl ?_
  repeat' (first|(conv in hold _=>simp (disch:=omega) only [go_sem,List.length_map,List.length_replicate,hnl,hmk])|exact trivial|exact Sub.refl _|omega)
  rw [hnx,List.map_append,List.map_replicate]
  have e : g.2 - min g.2 (cntE g.1 lb) = g.2 - cntE g.1 lb:=by omega
  have e2 : min g.2 g.2 - min g.2 (cntE g.1 lb) = g.2 - cntE g.1 lb:=by omega
  refine ⟨?_,?_⟩ <;> first | exact rfl | (simp only [e]; try exact rfl) | (simp only [e2]; try exact rfl)
 ·have hen : flatF (fun g=>g.2 - cntE g.1 lb) ((grp la).take (grp la).length) = exceptR la lb:=by rw [List.take_length]; rfl
  refine go1FC @hen ?_
  refine s_pre (pre_frz (t:=32) (g:=1000004) (by decide) (by decide) rfl ?_) ?_
  rotate_left
  refine go1F (cj2 @hen @htk) ?_
  refine c_doesR [3000001] (h3) (callOK_of rfl (Nat.le_of_ble_eq_true rfl) rfl ?_ ?_) ?_ ?_
  ·repeat' (first|(conv in hold _=>simp (disch:=omega) only [go_sem,hen,List.length_map])|exact trivial|exact Sub.refl _|omega)
  ·repeat' (first|(conv in hold _=>simp (disch:=omega) only [go_sem,hen,List.length_map])|exact trivial|exact Sub.refl _|omega)
  ·((conv=>rhs;simp (disch:=omega) only [go_sem,hen,List.length_map]); try rfl)
  repeat' (first|with_reducible refine acc_none ?_ | (conv in hold _=>simp (disch:=omega) only [go_sem,hen,List.length_map])|refine Stp.go ?_|(with_reducible first|refine it_pos rfl ?_|refine it_neg (by decide) ?_|refine st_nil rfl ?_|refine s_op ?_ ?_|exact trivial)|((with_reducible first|refine dw_reg0 ?_|refine dw_regB ?_);(conv=>arg 3;whnf))|(refine Spl.go (fun hq he=>?_) (fun hq he=>?_)<;>first|(exfalso;clear hq;omega)|((try first|(conv=>arg 8;simp only [hq])|(conv=>arg 4;simp only [hq]));clear hq))|((with_reducible first|refine c_split (fun hq=>?_) (fun hq=>?_)|refine q_split (fun hq=>?_) (fun hq=>?_))<;>(try first|(conv=>arg 8;simp only [hq])|(conv=>arg 4;simp only [hq])))|exact Sub.refl _|omega)
  ·refine fin_wk (wk_frzO 1000002 3000001 (by decide) (by decide) rfl (by decide) rfl ?_) ?_
   rotate_left
   (conv in hold _=>simp (disch:=omega) only [go_sem,htk,List.length_map,Nat.le_refl])
   ·refine fin_L [] ?_ ?_ rfl ?_
    repeat' (first|(conv in hold _=>simp (disch:=omega) only [go_sem])|exact trivial|exact Sub.refl _|omega)
   ·exact rows_pur _
  ·exact rows_pur _
theorem IntersectAll_impl_f {a b : Ta} (ha : rsz a.rows ≤ 1048576) (hb : rsz b.rows ≤ 1048576) (h : ¬ sameT a b) : Does Try.prog 46 [] [taD a,taD b] (.tup [taD ⟨0,[]⟩,Bo false]) []:=by
 have h1:=haveSameWidth_ok a b ha hb
 rw [decide_eq_false h] at h1
 refine Bg c_Z16 mixed (go1 trivial ?_)
 refine Uc trivial (h1) (go1 trivial ?_)
 exact sub_zero
theorem ExceptAll_impl_f {a b : Ta} (ha : rsz a.rows ≤ 1048576) (hb : rsz b.rows ≤ 1048576) (h : ¬ sameT a b) : Does Try.prog 48 [] [taD a,taD b] (.tup [taD ⟨0,[]⟩,Bo false]) []:=by
 have h1:=haveSameWidth_ok a b ha hb
 rw [decide_eq_false h] at h1
 refine Bg c_Z34 mixed (go1 trivial ?_)
 refine Uc trivial (h1) (go1 trivial ?_)
 exact sub_zero
def subT (a b : Ta) : Prop:=sameT a b ∧ ∀ x,cntE x a.rows ≤ cntE x b.rows
noncomputable instance subTDec (a b : Ta) : Decidable (subT a b):=Classical.propDecidable _
end Go.Proofs.Ytedmegmhjmabcaa
