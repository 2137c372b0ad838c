/-
  Drawn tables: rows are put in one after the other. No condition.
-/
import Derived.Test.YtedmegmhjmabcaaKSDca
import Derived.Test.YtedmegmhjmabcaaKSDcb
import Derived.Test.YtedmegmhjmabcaaJSVTbD
import Derived.Test.YtedmegmhjmabcaaKSVSrt
import Derived.Test.YtedmegmhjmabcaaJSVLib
import Derived.Test.YtedmegmhjmabcaaSVGo
set_option maxHeartbeats 4000000
set_option maxRecDepth 100000
set_option linter.unusedVariables false
set_option linter.unusedSimpArgs false
namespace Go.Proofs.Ytedmegmhjmabcaa
open Go.RowKit
theorem copyRow_ok (vs : List V) (hl : vs.length < 2000000) : Does Try.prog 107 [] [rowD vs] (rowD vs) []:=by
 refine Bg c_Z43 mixed (go1F trivial ?_)
 refine fin_wk (wk_frz 2 2000005 (by decide) (by decide) rfl ?_) ?_
 rotate_left
 (conv in hold _=>simp (disch:=omega) only [go_sem,take_all])
 ·refine fin_L [] ?_ ?_ rfl ?_
  repeat' (first|(conv in hold _=>simp (disch:=omega) only [go_sem])|exact trivial|exact Sub.refl _|omega)
 ·exact vals_pur _
theorem insertRow_own (rs : List (List V)) (r : List V) (w : Nat) (hw : w < 1000) (hl : rs.length ≤ 400) (hs : RsW w (r :: rs)) (ha : Asc rs) : Does Try.prog 104 [] [rowsD rs,rowD r] (.own 1000000 1 (ins r rs).length) [.row 1 ((ins r rs).map rowD)]:=by
 have hr:=hs r (List.mem_cons_self ..)
 have hcp:=copyRow_ok r (by omega)
 let p : Nat → Bool:=fun j=>decide (0 < cmpR (rs.getD j []) r)
 have hat : ∀ (j : Nat) (x : List V),rs[j]? = some x → p j = decide (0 < cmpR x r):=fun j x hj=>by
  show decide (0 < cmpR (rs.getD j []) r) = _
  rw [List.getD_eq_getElem?_getD,hj]
  rfl
 have hp : ∀ i j,i ≤ j → j < rs.length → p i = true → p j = true:=fun i j hij hj hi=>by
  have e1:=List.getElem?_eq_getElem (l:=rs) (i:=i) (by omega)
  have e2:=List.getElem?_eq_getElem hj
  rw [hat _ _ e1] at hi
  rw [hat _ _ e2]
  have g1:=hs _ (List.mem_cons_of_mem _ (List.getElem_mem (l:=rs) (n:=i) (by omega)))
  have g2:=hs _ (List.mem_cons_of_mem _ (List.getElem_mem hj))
  by_cases hij' : i = j
  ·subst hij'; exact hi
  ·have h1:=asc_at ha (show i < j by omega) e1 e2
   have hi:=of_decide_eq_true hi
   refine decide_eq_true ?_
   have h2:=cmpR_anti _ r (by omega) g1.2 hr.2
   have h3:=cmpR_anti _ r (by omega) g2.2 hr.2
   have h4:=(cmpR_trans r _ _ (by omega) (by omega) hr.2 g1.2 g2.2 (by omega)).1 h1
   by_cases h5 : cmpR r rs[j] = 0
   ·have e:=cmpR_eq h5
    have h6:=cmpR_anti rs[i] rs[j] (by omega) g1.2 g2.2
    unfold leR at h1
    rw [← e] at h1
    omega
   ·omega
 clear_value p
 have hinv:=itB_inv (p:=p) (n:=rs.length) hp
 have hend:=hinv rs.length
 have hee : (itB p rs.length rs.length).1 = (itB p rs.length rs.length).2:=by omega
 have hres : ins r rs = rs.take (itB p rs.length rs.length).1 ++ r :: rs.drop (itB p rs.length rs.length).1:=by
  refine ins_at r rs _ (by omega) (fun j x hj hx=>?_) (fun x hx=>?_)
  ·have h1:=hend.2.1 j hj
   rw [hat j x hx] at h1
   have:=of_decide_eq_false h1
   omega
  ·have h1:=hend.2.2 _ (by omega) (List.getElem?_eq_some_iff.1 hx).1
   rw [hat _ x hx] at h1
   have:=of_decide_eq_true h1
   omega
 have hil : (ins r rs).length = rs.length + 1:=(ins_perm r rs).length_eq
 rw [hil]
 refine Bk c_Z29 mixed 0 (go1 trivial ?_)
 refine dw_for (c:=0) (l:=fun i=>[(0,rowsD rs),(1,rowD r),(5,I (itB p rs.length i).1),(6,I (itB p rs.length i).2)]) rs.length (fun _=>True) 0 trivial (Wk.list [] rfl rfl ?_) (fun i hi _=>?_) (Nat.zero_le _)
 ·repeat' (first|(conv in hold _=>simp (disch:=omega) only [go_sem])|exact trivial|exact Sub.refl _|omega)
  exact ⟨rfl,rfl⟩
 ·have hi3:=hinv i
  have hnx : itB p rs.length (i + 1) = stepB p (itB p rs.length i):=rfl
  have hstop:=itB_end (p:=p) (n:=rs.length) (i:=i)
  by_cases hlt : (itB p rs.length i).1 < (itB p rs.length i).2
  ·generalize itB p rs.length i = s at hi3 hnx hstop hlt
   obtain ⟨lo,hi'⟩:=s
   simp only at hi3 hstop hlt
   have hmid : ((lo : Int) + (hi' : Int)).tdiv 2 = (((lo + hi') / 2 : Nat) : Int):=by
    rw [Int.tdiv_eq_ediv_of_nonneg (by omega)]
    omega
   have hw' : IntKind.i64.wrap (((lo + hi') / 2 : Nat) : Int) = (((lo + hi') / 2 : Nat) : Int):=wrap64 (by omega) (by omega)
   have hx:=List.getElem?_eq_getElem (l:=rs) (i:=(lo + hi') / 2) (by omega)
   generalize rs[(lo + hi') / 2]'(by omega) = x at hx
   have hxl:=hs x (List.mem_cons_of_mem _ (List.mem_of_getElem? hx))
   have hc:=compareRows_spec x r (by omega) (by omega)
   have hatm:=hat _ x hx
   have hmr : (lo + hi') / 2 < rs.length:=by omega
   unfold stepB at hnx
   simp only [hlt,if_true] at hnx
   generalize (lo + hi') / 2 = m at hmid hw' hx hatm hmr hnx
   by_cases hm : cmpR x r ≤ 0
   ·rw [decide_eq_false (by omega)] at hatm
    rw [hatm] at hnx
    simp only [Bool.false_eq_true,if_false] at hnx
    refine go1 (cj3 @hmid @hw' @hx) ?_
    refine Uc trivial (hc) (go1 trivial ?_)
    refine ⟨by omega,trivial,Wk.list [] rfl rfl ?_⟩
    repeat' (first|(conv in hold _=>simp (disch:=omega) only [go_sem,hnx])|exact trivial|exact Sub.refl _|omega)
   ·rw [decide_eq_true (by omega)] at hatm
    rw [hatm] at hnx
    simp only [if_true] at hnx
    refine go1 (cj3 @hmid @hw' @hx) ?_
    refine Uc trivial (hc) (go1 trivial ?_)
    refine ⟨by omega,trivial,Wk.list [] rfl rfl ?_⟩
    repeat' (first|(conv in hold _=>simp (disch:=omega) only [go_sem,hnx])|exact trivial|exact Sub.refl _|omega)
  ·have he1:=hstop hlt (rs.length - i)
   rw [show i + (rs.length - i) = rs.length by omega] at he1
   rw [he1] at hres
   generalize itB p rs.length i = s at hi3 hlt hres
   obtain ⟨lo,hi'⟩:=s
   simp only at hi3 hlt hres
   rw [hres]
   have t1 : (rs.map rowD).take lo = (rs.take lo).map rowD:=List.map_take.symm
   have t2 : (rs.map rowD).take rs.length = rs.map rowD:=take_all rowD rs
   have t3 : (rs.map rowD).drop lo = (rs.drop lo).map rowD:=List.map_drop.symm
   have t4 : (rs.take lo).length = lo:=by rw [List.length_take]; omega
   have t5 : (rs.drop lo).length = rs.length - lo:=List.length_drop
   have t6 : ((rs.take lo).map rowD).take lo = (rs.take lo).map rowD:=List.take_of_length_le (by rw [List.length_map,t4]; exact Nat.le_refl _)
   have t7 : ((rs.take lo).map rowD).length = lo:=by rw [List.length_map,t4]
   have t8 : ((rs.take lo).map rowD ++ [rowD r]).length = lo + 1:=by rw [List.length_append,t7]; rfl
   have t9 : ((rs.take lo).map rowD ++ [rowD r]).take (lo + 1) = (rs.take lo).map rowD ++ [rowD r]:=List.take_of_length_le (by rw [t8]; exact Nat.le_refl _)
   have ta : lo + 1 + (rs.length - lo) = rs.length + 1:=by omega
   have tb : ((rs.map rowD).take rs.length).drop lo = (rs.drop lo).map rowD:=by rw [t2,t3]
   rw [rowD] at t8 t9
   refine go1 (cj7 @t1 @t2 @t3 @t4 @t5 @t6 @t7) ?_
   refine c_doesE (hcp) ?_ ?_ ?_
   ·((try (conv=>rhs;simp (disch:=omega) only [go_sem,t1,t2,t3,t4,t5,t6,t7,t8,t9,List.length_map])); try rfl)
   ·first|rfl|(conv=>lhs;simp only [go_sem,t1,t2,t3,t4,t5,t6,t7,t8,t9,List.length_map])
   repeat' (first|with_reducible refine acc_none ?_ | (conv in hold _=>simp (disch:=omega) only [go_sem,t1,t2,t3,t4,t5,t6,t7,t8,t9,List.length_map])|refine Stp.go ?_|(with_reducible first|refine it_pos rfl ?_|refine it_neg (by decide) ?_|refine st_nil rfl ?_|refine s_op ?_ ?_|exact trivial)|((with_reducible first|refine dw_reg0 ?_|refine dw_regB ?_);(conv=>arg 3;whnf))|(refine Spl.go (fun hq he=>?_) (fun hq he=>?_)<;>first|(exfalso;clear hq;omega)|((try first|(conv=>arg 8;simp only [hq])|(conv=>arg 4;simp only [hq]));clear hq))|((with_reducible first|refine c_split (fun hq=>?_) (fun hq=>?_)|refine q_split (fun hq=>?_) (fun hq=>?_))<;>(try first|(conv=>arg 8;simp only [hq])|(conv=>arg 4;simp only [hq])))|(with_reducible refine fin_0 ?_ (by first|rfl|(conv=>lhs;simp only [go_sem,t1,t2,t3,t4,t5,t6,t7,t8,t9,List.length_map])) ?_)|exact Sub.refl _|omega)
   refine fin_L [2000042] ?_ ?_ rfl ?_
   repeat' (first|(conv in hold _=>simp (disch:=omega) only [go_sem,ta,List.map_append,List.map_cons])|exact trivial|exact Sub.refl _|omega)
   refine congrArg (D.row 1) ?_
   have hren : ∀ l : List (List V),D.renL [2000042] (l.map rowD) = l.map rowD:=rows_ren [2000042]
   have e5 : List.map rowD (rs.take lo) ++ D.sl 2 (List.map vD r) :: List.map rowD (rs.drop lo) = (rs.take lo ++ r :: rs.drop lo).map rowD:=by rw [List.map_append,List.map_cons]; rfl
   rw [e5,hren,← e5,List.append_assoc]
   rfl
end Go.Proofs.Ytedmegmhjmabcaa
