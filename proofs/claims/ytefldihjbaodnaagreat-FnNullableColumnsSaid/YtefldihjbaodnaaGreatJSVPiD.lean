/-
  Outcomes of the program alone. No condition.
-/
import Derived.Test.YtefldihjbaodnaaGreatKSDca
import Derived.Test.YtefldihjbaodnaaGreatKSDcj
import Derived.Test.YtefldihjbaodnaaGreatJSVPiC
import Derived.Test.YtefldihjbaodnaaGreatJSVGo
import Derived.Test.YtefldihjbaodnaaGreatKSDcd
import Derived.Test.YtefldihjbaodnaaGreatKSDce
import Derived.Test.YtefldihjbaodnaaGreatJSVDrawTb
set_option maxHeartbeats 4000000
set_option maxRecDepth 100000
set_option linter.unusedVariables false
set_option linter.unusedSimpArgs false
namespace Go.Proofs.YtefldihjbaodnaaGreat
open Go.RowKit
theorem oc_impl {ss : List Int} (hs : ∀ (j : Nat) (s : Int),ss[j]? = some s → 1 ≤ s ∧ s ≤ 7) (hf1 : enters Tryz.prog 255 = true) (hf2 : enters Tryz.prog 256 = true) : ∀ (e : E) (d : Nat),eOk e ss.length d → (0 ≤ oc e ss ∧ oc e ss ≤ 7) ∧ Does Tryz.prog 248 [] [eD e,intsD ss] (I (oc e ss)) []:=by
 refine E.ind (fun e ih d he=>?_)
 rcases eOk_kids he with ⟨h1,_⟩ | ⟨h1,a,hks,hao⟩ | ⟨h1,a,b,hks,hao,hbo⟩
 ·rcases h1 with h1 | h1
  ·have hlo:=((eOk_iff e _ d).1 he).2.2.2
   unfold leafOk at hlo
   rw [if_pos h1] at hlo
   have e0 : ss[e.c.toNat]? = some _:=List.getElem?_eq_getElem (show e.c.toNat < ss.length by omega)
   generalize ss[e.c.toNat]'(by omega) = s at e0
   have:=hs _ s e0
   rw [oc_col h1 e0]
   refine ⟨by omega,?_⟩
   exact Bg c_Z156 mixed (go0 @e0)
  ·rw [oc_const h1]
   refine ⟨stV_range e.v,?_⟩
   refine Bg c_Z156 mixed (go1 trivial ?_)
   exact Uc trivial (stateOf_impl e.v) (go0 trivial)
 ·obtain ⟨hn,hB⟩:=ih a (by rw [hks]; exact List.mem_cons_self ..) (d - 1) hao
  generalize hgn : oc a ss = n at hn hB
  rcases h1 with h1 | h1
  ·have ht:=tab_not hn
   have hneg:=negatedStates_ok n
   rw [oc_not h1 hks,hgn]
   refine ⟨in7_iff ht.2,?_⟩
   refine Bg c_Z156 mixed (go1 @hks ?_)
   refine Uc trivial (hB) (go1 trivial ?_)
   exact Uc trivial (hneg) (go0 trivial)
  ·have hnt:=null_ok n
   rw [oc_null h1 hks,hgn]
   refine ⟨ntV_range n,?_⟩
   refine Bg c_Z156 mixed (go1 @hks ?_)
   refine Uc trivial (hB) (go1 trivial ?_)
   exact Uc trivial (hnt) (go0 trivial)
 ·obtain ⟨hn,hB⟩:=ih a (by rw [hks]; exact List.mem_cons_self ..) (d - 1) hao
  obtain ⟨hm,hD⟩:=ih b (by rw [hks]; exact List.mem_cons_of_mem _ (List.mem_cons_self ..)) (d - 1) hbo
  rw [oc_two (by omega) (by omega) (by omega) (by omega) hks]
  generalize oc a ss = n at hn hB ⊢
  generalize oc b ss = m at hm hD ⊢
  by_cases h8 : e.k = 8
  ·have ht:=tab_and hn hm
   have hti:=truthStates_impl n m hf1 min (fun x y _ _=>min_ok x y)
   rw [bnS_8 h8]
   refine ⟨in7_iff ht.2,?_⟩
   refine Bg c_Z156 mixed (go1 @hks ?_)
   refine Uc @hks (hB) (go1 @hks ?_)
   refine Uc trivial (hD) (go1 trivial ?_)
   exact Uc trivial (hti) (go0 trivial)
  ·by_cases h9 : e.k = 9
   ·have ht:=tab_or hn hm
    have hti:=truthStates_impl n m hf2 max (fun x y _ _=>max_ok x y)
    rw [bnS_9 h9]
    refine ⟨in7_iff ht.2,?_⟩
    refine Bg c_Z156 mixed (go1 @hks ?_)
    refine Uc @hks (hB) (go1 @hks ?_)
    refine Uc trivial (hD) (go1 trivial ?_)
    exact Uc trivial (hti) (go0 trivial)
   ·by_cases hbo : both n m
    ·by_cases h67 : 6 ≤ e.k
     ·rcases tab_r hn hm with hr | hr
      ·have hc:=cmp_0 hr hbo
       rw [bnS_b0 h8 h9 hbo h67 hr]
       refine ⟨by decide,?_⟩
       refine Bg c_Z156 mixed (go1 @hks ?_)
       refine Uc @hks (hB) (go1 @hks ?_)
       refine c_doesE (hD) ?_ ?_ ?_
       ·((try (conv=>rhs;simp (disch:=omega) only [go_sem])); try rfl)
       ·first|rfl|(conv=>lhs;simp only [go_sem])
       repeat' (first|with_reducible refine acc_none ?_ | (conv in hold _=>simp (disch:=omega) only [go_sem])|refine Stp.go ?_|(with_reducible first|refine it_pos rfl ?_|refine it_neg (by decide) ?_|refine st_nil rfl ?_|refine s_op ?_ ?_|exact trivial)|((with_reducible first|refine dw_reg0 ?_|refine dw_regB ?_);(conv=>arg 3;whnf))|(refine Spl.go (fun hq he=>?_) (fun hq he=>?_)<;>first|(exfalso;clear hq;omega)|((try first|(conv=>arg 8;simp only [hq])|(conv=>arg 4;simp only [hq]));clear hq))|((with_reducible first|refine c_split (fun hq=>?_) (fun hq=>?_)|refine q_split (fun hq=>?_) (fun hq=>?_))<;>(try first|(conv=>arg 8;simp only [hq])|(conv=>arg 4;simp only [hq])))|(with_reducible refine fin_0 ?_ (by first|rfl|(conv=>lhs;simp only [go_sem])) ?_)|exact Sub.refl _|omega)
       all_goals
        exact Uc trivial (hc) (go0 trivial)
      ·have hc:=cmp_4 hr hbo
       rw [bnS_b4 h8 h9 hbo h67 hr]
       refine ⟨by decide,?_⟩
       refine Bg c_Z156 mixed (go1 @hks ?_)
       refine Uc @hks (hB) (go1 @hks ?_)
       refine c_doesE (hD) ?_ ?_ ?_
       ·((try (conv=>rhs;simp (disch:=omega) only [go_sem])); try rfl)
       ·first|rfl|(conv=>lhs;simp only [go_sem])
       repeat' (first|with_reducible refine acc_none ?_ | (conv in hold _=>simp (disch:=omega) only [go_sem])|refine Stp.go ?_|(with_reducible first|refine it_pos rfl ?_|refine it_neg (by decide) ?_|refine st_nil rfl ?_|refine s_op ?_ ?_|exact trivial)|((with_reducible first|refine dw_reg0 ?_|refine dw_regB ?_);(conv=>arg 3;whnf))|(refine Spl.go (fun hq he=>?_) (fun hq he=>?_)<;>first|(exfalso;clear hq;omega)|((try first|(conv=>arg 8;simp only [hq])|(conv=>arg 4;simp only [hq]));clear hq))|((with_reducible first|refine c_split (fun hq=>?_) (fun hq=>?_)|refine q_split (fun hq=>?_) (fun hq=>?_))<;>(try first|(conv=>arg 8;simp only [hq])|(conv=>arg 4;simp only [hq])))|(with_reducible refine fin_0 ?_ (by first|rfl|(conv=>lhs;simp only [go_sem])) ?_)|exact Sub.refl _|omega)
       all_goals
        exact Uc trivial (hc) (go0 trivial)
     ·rw [bnS_ba h8 h9 hbo h67]
      refine ⟨by decide,?_⟩
      have hc : Does Tryz.prog 258 [] [I n,I m] (I 7) []:=by
       rcases tab_r hn hm with hr | hr
       ·exact ari_3 (cmp_0 hr hbo)
       ·exact ari_7 (cmp_4 hr hbo)
      refine Bg c_Z156 mixed (go1 @hks ?_)
      refine Uc @hks (hB) (go1 @hks ?_)
      refine Uc trivial (hD) (go1 trivial ?_)
      exact Uc trivial (hc) (go0 trivial)
    ·rcases tab_r hn hm with hr | hr
     ·have hc:=cmp_no hr hbo
      have ha:=ari_0 hc
      rw [bnS_n0 h8 h9 hbo hr]
      refine ⟨by decide,?_⟩
      by_cases h67 : 6 ≤ e.k
      ·refine Bg c_Z156 mixed (go1 @hks ?_)
       refine Uc @hks (hB) (go1 @hks ?_)
       refine c_doesE (hD) ?_ ?_ ?_
       ·((try (conv=>rhs;simp (disch:=omega) only [go_sem])); try rfl)
       ·first|rfl|(conv=>lhs;simp only [go_sem])
       repeat' (first|with_reducible refine acc_none ?_ | (conv in hold _=>simp (disch:=omega) only [go_sem])|refine Stp.go ?_|(with_reducible first|refine it_pos rfl ?_|refine it_neg (by decide) ?_|refine st_nil rfl ?_|refine s_op ?_ ?_|exact trivial)|((with_reducible first|refine dw_reg0 ?_|refine dw_regB ?_);(conv=>arg 3;whnf))|(refine Spl.go (fun hq he=>?_) (fun hq he=>?_)<;>first|(exfalso;clear hq;omega)|((try first|(conv=>arg 8;simp only [hq])|(conv=>arg 4;simp only [hq]));clear hq))|((with_reducible first|refine c_split (fun hq=>?_) (fun hq=>?_)|refine q_split (fun hq=>?_) (fun hq=>?_))<;>(try first|(conv=>arg 8;simp only [hq])|(conv=>arg 4;simp only [hq])))|(with_reducible refine fin_0 ?_ (by first|rfl|(conv=>lhs;simp only [go_sem])) ?_)|exact Sub.refl _|omega)
       all_goals
        exact Uc trivial (hc) (go0 trivial)
      ·refine Bg c_Z156 mixed (go1 @hks ?_)
       refine Uc @hks (hB) (go1 @hks ?_)
       refine Uc trivial (hD) (go1 trivial ?_)
       exact Uc trivial (ha) (go0 trivial)
     ·have hc:=cmp_no hr hbo
      have ha:=ari_4 hc
      rw [bnS_n4 h8 h9 hbo hr]
      refine ⟨by decide,?_⟩
      by_cases h67 : 6 ≤ e.k
      ·refine Bg c_Z156 mixed (go1 @hks ?_)
       refine Uc @hks (hB) (go1 @hks ?_)
       refine c_doesE (hD) ?_ ?_ ?_
       ·((try (conv=>rhs;simp (disch:=omega) only [go_sem])); try rfl)
       ·first|rfl|(conv=>lhs;simp only [go_sem])
       repeat' (first|with_reducible refine acc_none ?_ | (conv in hold _=>simp (disch:=omega) only [go_sem])|refine Stp.go ?_|(with_reducible first|refine it_pos rfl ?_|refine it_neg (by decide) ?_|refine st_nil rfl ?_|refine s_op ?_ ?_|exact trivial)|((with_reducible first|refine dw_reg0 ?_|refine dw_regB ?_);(conv=>arg 3;whnf))|(refine Spl.go (fun hq he=>?_) (fun hq he=>?_)<;>first|(exfalso;clear hq;omega)|((try first|(conv=>arg 8;simp only [hq])|(conv=>arg 4;simp only [hq]));clear hq))|((with_reducible first|refine c_split (fun hq=>?_) (fun hq=>?_)|refine q_split (fun hq=>?_) (fun hq=>?_))<;>(try first|(conv=>arg 8;simp only [hq])|(conv=>arg 4;simp only [hq])))|(with_reducible refine fin_0 ?_ (by first|rfl|(conv=>lhs;simp only [go_sem])) ?_)|exact Sub.refl _|omega)
       all_goals
        exact Uc trivial (hc) (go0 trivial)
      ·refine Bg c_Z156 mixed (go1 @hks ?_)
       refine Uc @hks (hB) (go1 @hks ?_)
       refine Uc trivial (hD) (go1 trivial ?_)
       exact Uc trivial (ha) (go0 trivial)
end Go.Proofs.YtefldihjbaodnaaGreat
set_option maxHeartbeats 4000000
set_option maxRecDepth 100000
set_option linter.unusedVariables false
set_option linter.unusedSimpArgs false
namespace Go.Proofs.YtefldihjbaodnaaGreat
open Go.RowKit
def at3 {α : Type} (x y z : α) : Nat → α
 | 0=>x
 | 1=>y
 | _=>z
theorem at3_0 {α : Type} (x y z : α) : at3 x y z 0 = x:=rfl
theorem at3_1 {α : Type} (x y z : α) : at3 x y z 1 = y:=rfl
theorem at3_2 {α : Type} (x y z : α) : at3 x y z 2 = z:=rfl
theorem cast0 : ((0 : Nat) : Int) = 0:=rfl
theorem growV_ok (n : Nat) (h0 : 0 < n) (hn : n ≤ 1000000) : Does Tryz.prog 198 [] [.nul,I n] (.own 1000000 2 0) [.row 2 (List.replicate n (.agg [Bo false,I 0]))]:=by
 have hp : D.renL [2000022] (List.replicate n (.agg [Bo false,I 0])) = List.replicate n (.agg [Bo false,I 0]):=by rw [D.renL_map,List.map_replicate]; rfl
 refine Bk c_Z9 mixed 0 (go1 (cj3 @cast0 @Int.sub_self @Int.sub_zero) ?_)
 refine fin_L [2000022] ?_ ?_ rfl ?_
 repeat' (first|(conv in hold _=>simp (disch:=omega) only [go_sem,cast0,Int.sub_self,Int.sub_zero,hp])|exact trivial|exact Sub.refl _|omega)
theorem concatV_own (a b : List V) (h0 : 0 < a.length + b.length) (hl : a.length + b.length ≤ 100000) : Does Tryz.prog 161 [] [.sl 1 [rowD a,rowD b]] (.own 1000000 2 (a.length + b.length)) [.row 2 ((a ++ b).map vD)]:=by
 have hg:=growV_ok (a.length + b.length) h0 (by omega)
 have e0 : (List.replicate (a.length + b.length) (D.agg [Bo false,I 0])).take 0 = []:=rfl
 have ea:=take_all vD a
 have hp : ∀ L,D.renL L (List.replicate (a.length + b.length) (.agg [Bo false,I 0])) = List.replicate (a.length + b.length) (.agg [Bo false,I 0]):=fun L=>by rw [D.renL_map,List.map_replicate]; rfl
 have ec : (((a.length + b.length : Nat) : Int)) = (a.length : Int) + (b.length : Int):=by omega
 refine Bk c_Z6 mixed 0 (go1 trivial ?_)
 refine dw_for (c:=0) (l:=fun i=>[(0,.sl 1 [rowD a,rowD b]),(3,I (at3 0 (a.length : Int) (a.length + b.length : Nat) i)),(9,.sl 1 [rowD a,rowD b]),(10,I 2),(11,I (at3 0 1 2 i))]) 2 (fun _=>True) 0 trivial (Wk.list [] rfl rfl ?_) (fun i hi _=>?_) (by decide)
 ·repeat' (first|(conv in hold _=>simp (disch:=omega) only [go_sem,at3_0,Int.reduceAdd])|exact trivial|exact Sub.refl _|omega)
  first | exact rfl | exact ⟨rfl,rfl⟩
 ·have h3 : i = 0 ∨ i = 1 ∨ i = 2:=by omega
  rcases h3 with rfl | rfl | rfl
  ·refine go1 (cj2 @at3_0 @Int.zero_add) ?_
   refine ⟨by decide,trivial,Wk.list [] rfl rfl ?_⟩
   repeat' (first|(conv in hold _=>simp (disch:=omega) only [go_sem,at3_1,Nat.reduceAdd,Int.reduceAdd])|exact trivial|exact Sub.refl _|omega)
  ·refine go1 @at3_1 ?_
   refine ⟨by decide,trivial,Wk.list [] rfl rfl ?_⟩
   repeat' (first|(conv in hold _=>simp (disch:=omega) only [go_sem,at3_2,Nat.reduceAdd,Int.reduceAdd,ec])|exact trivial|exact Sub.refl _|omega)
  ·refine go1 @at3_2 ?_
   refine UcR [3000001] trivial (hg) (go1 trivial ?_)
   refine dw_for (c:=1) (l:=fun i=>[(6,.own 1000000 2 (at3 0 a.length (a.length + b.length) i)),(25,.sl 1 [rowD a,rowD b]),(26,I 2),(27,I (at3 0 1 2 i)),(1000000,.row 2 (at3 (List.replicate (a.length + b.length) (.agg [Bo false,I 0])) (a.map vD) ((a ++ b).map vD) i))]) 2 (fun _=>True) 0 trivial (Wk.list [3000001] rfl rfl ?_) (fun i hi _=>?_) (by decide)
   ·repeat' (first|(conv in hold _=>simp (disch:=omega) only [go_sem,at3_0,Int.reduceAdd,hp])|exact trivial|exact Sub.refl _|omega)
    first | exact rfl | exact ⟨rfl,rfl⟩
   ·have h3 : i = 0 ∨ i = 1 ∨ i = 2:=by omega
    rcases h3 with rfl | rfl | rfl
    ·refine go1 (cj2 @at3_0 @e0) ?_
     refine ⟨by decide,trivial,Wk.list [2000033] rfl rfl ?_⟩
     repeat' (first|(conv in hold _=>simp (disch:=omega) only [go_sem,at3_1,Nat.reduceAdd,Int.reduceAdd,e0])|exact trivial|exact Sub.refl _|omega)
    ·refine go1 (cj2 @at3_1 @ea) ?_
     refine ⟨by decide,trivial,Wk.list [2000033] rfl rfl ?_⟩
     repeat' (first|(conv in hold _=>simp (disch:=omega) only [go_sem,at3_2,Nat.reduceAdd,Int.reduceAdd,ea])|exact trivial|exact Sub.refl _|omega)
     rw [List.map_append]
    ·refine go1 @at3_2 ?_
     refine fin_L [1000000] ?_ ?_ rfl ?_
     repeat' (first|(conv in hold _=>simp (disch:=omega) only [go_sem,at3_2])|exact trivial|exact Sub.refl _|omega)
end Go.Proofs.YtefldihjbaodnaaGreat
