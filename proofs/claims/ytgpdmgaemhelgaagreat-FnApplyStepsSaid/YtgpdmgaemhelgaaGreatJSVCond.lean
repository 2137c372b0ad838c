/-
  Columns replaced by expressions, by the model. No condition.
-/
import Derived.Test.YtgpdmgaemhelgaaGreatKSDca
import Derived.Test.YtgpdmgaemhelgaaGreatKSDcd
import Derived.Test.YtgpdmgaemhelgaaGreatJSVSm
import Derived.Test.YtgpdmgaemhelgaaGreatJSVCpE
import Derived.Test.YtgpdmgaemhelgaaGreatKSVDrawE
import Derived.Test.YtgpdmgaemhelgaaGreatJSVCall
set_option maxHeartbeats 4000000
set_option maxRecDepth 100000
set_option linter.unusedVariables false
set_option linter.unusedSimpArgs false
namespace Go.Proofs.YtgpdmgaemhelgaaGreat
open Go.RowKit
theorem substitute_ok (bs : List E) (hb : ∀ b,b ∈ bs → esz b ≤ 800000) : ∀ (e : E) (d : Nat),eOk e bs.length d → Does Tryz.prog 143 [] [eD e,.sl 5 (bs.map eD)] (eD (subE bs e)) []:=by
 refine E.ind (fun e ih d h=>?_)
 have h1:=(eOk_iff e _ d).1 h
 have hn2:=kidsN_le e.k
 have hlen : e.ks.length ≤ 2:=by omega
 by_cases hk : e.k = 1
 ·have hl:=h1.2.2.2
  unfold leafOk at hl
  rw [if_pos hk] at hl
  obtain ⟨b,hbe⟩ : ∃ b,bs[e.c.toNat]? = some b:=⟨_,List.getElem?_eq_getElem (show e.c.toNat < bs.length by omega)⟩
  have hcp:=copyExpr_ok b (by have:=hb b (List.mem_of_getElem? hbe); omega)
  rw [subE_col hk hbe]
  refine does0 c_Z87 mixed (Nat.le_of_ble_eq_true rfl) ?_
  conv=>arg 3; whnf
  repeat' (first|with_reducible refine acc_none ?_ | (conv in hold _=>simp (disch:=omega) only [go_sem,List.getElem?_map,hbe,Option.map_some,List.length_map])|refine Stp.go ?_|(with_reducible first|refine it_pos rfl ?_|refine it_neg (by decide) ?_|refine st_nil rfl ?_|refine s_op ?_ ?_|exact trivial)|((with_reducible first|refine dw_reg0 ?_|refine dw_regB ?_);(conv=>arg 3;whnf))|(refine Spl.go (fun hq he=>?_) (fun hq he=>?_)<;>first|(exfalso;clear hq;omega)|((try first|(conv=>arg 8;simp only [hq])|(conv=>arg 4;simp only [hq]));clear hq))|((with_reducible first|refine c_split (fun hq=>?_) (fun hq=>?_)|refine q_split (fun hq=>?_) (fun hq=>?_))<;>(try first|(conv=>arg 8;simp only [hq])|(conv=>arg 4;simp only [hq])))|(with_reducible refine fin_0 ?_ (by first|rfl|(conv=>lhs;simp only [go_sem,List.getElem?_map,hbe,Option.map_some,List.length_map])) ?_)|exact Sub.refl _|omega)
  refine c_doesE (hcp) ?_ ?_ ?_
  ·((try (conv=>rhs;simp (disch:=omega) only [go_sem])); try rfl)
  ·first|rfl|(conv=>lhs;simp only [go_sem])
  repeat' (first|with_reducible refine acc_none ?_ | (conv in hold _=>simp (disch:=omega) only [go_sem])|refine Stp.go ?_|(with_reducible first|refine it_pos rfl ?_|refine it_neg (by decide) ?_|refine st_nil rfl ?_|refine s_op ?_ ?_|exact trivial)|((with_reducible first|refine dw_reg0 ?_|refine dw_regB ?_);(conv=>arg 3;whnf))|(refine Spl.go (fun hq he=>?_) (fun hq he=>?_)<;>first|(exfalso;clear hq;omega)|((try first|(conv=>arg 8;simp only [hq])|(conv=>arg 4;simp only [hq]));clear hq))|((with_reducible first|refine c_split (fun hq=>?_) (fun hq=>?_)|refine q_split (fun hq=>?_) (fun hq=>?_))<;>(try first|(conv=>arg 8;simp only [hq])|(conv=>arg 4;simp only [hq])))|(with_reducible refine fin_0 ?_ (by first|rfl|(conv=>lhs;simp only [go_sem])) ?_)|exact Sub.refl _|omega)
 ·have hfl:=subL_map bs e.ks
  have hll : (subL bs e.ks).length = e.ks.length:=by rw [hfl,List.length_map]
  rw [subE_no hk]
  refine does0 c_Z87 mixed (Nat.le_of_ble_eq_true rfl) ?_
  conv=>arg 3; whnf
  repeat' (first|with_reducible refine acc_none ?_ | (conv in hold _=>simp (disch:=omega) only [go_sem])|refine Stp.go ?_|(with_reducible first|refine it_pos rfl ?_|refine it_neg (by decide) ?_|refine st_nil rfl ?_|refine s_op ?_ ?_|exact trivial)|((with_reducible first|refine dw_reg0 ?_|refine dw_regB ?_);(conv=>arg 3;whnf))|(refine Spl.go (fun hq he=>?_) (fun hq he=>?_)<;>first|(exfalso;clear hq;omega)|((try first|(conv=>arg 8;simp only [hq])|(conv=>arg 4;simp only [hq]));clear hq))|((with_reducible first|refine c_split (fun hq=>?_) (fun hq=>?_)|refine q_split (fun hq=>?_) (fun hq=>?_))<;>(try first|(conv=>arg 8;simp only [hq])|(conv=>arg 4;simp only [hq])))|(with_reducible refine fin_0 ?_ (by first|rfl|(conv=>lhs;simp only [go_sem])) ?_)|exact Sub.refl _|omega)
  refine dw_for (c:=4) (l:=fun i=>[(1,.sl 5 (bs.map eD)),(2,.ref 1000000 0),(4,.ref 1000001 0),(5,.ref 1000002 0),(6,I i),(1000000,.obj [I e.k,I e.c,Bo e.v.b,I e.v.n,.sl 5 (e.ks.map eD)]),(1000001,.obj [I 0,I 0,Bo false,I 0,.nul]),(1000002,.obj [I e.k,I e.c,Bo e.v.b,I e.v.n,.own 1000003 5 i]),(1000003,.row 5 (((subL bs e.ks).take i).map eD))]) e.ks.length (fun _=>True) 0 trivial ((wk_rowO 2000005 2000040 5 4 (by decide) (by decide) (by decide) rfl rfl rfl).trans (Wk.list [2000002,2000004,2000005,2000040] rfl rfl ?_)) (fun i hi _=>?_) (Nat.zero_le _)
  ·repeat' (first|(conv in hold _=>simp (disch:=omega) only [go_sem])|exact trivial|exact Sub.refl _|omega)
   exact rfl
  ·have hlt:=take_len (vs:=subL bs e.ks) (i:=i) (by omega)
   have hmt:=take_map eD (vs:=subL bs e.ks) (i:=i) (by omega)
   rcases at_or_end hi with ⟨x,hx,hlt1⟩ | rfl
   ·have hix:=ih x (List.mem_of_getElem? hx) (d - 1) (h1.2.2.1 x (List.mem_of_getElem? hx))
    have hfx : (subL bs e.ks)[i]? = some (subE bs x):=by rw [hfl,List.getElem?_map,hx]; rfl
    have hnx:=take_next hfx
    repeat' (first|with_reducible refine acc_none ?_ | (conv in hold _=>simp (disch:=omega) only [go_sem,List.getElem?_map,hx,Option.map_some])|refine Stp.go ?_|(with_reducible first|refine it_pos rfl ?_|refine it_neg (by decide) ?_|refine st_nil rfl ?_|refine s_op ?_ ?_|exact trivial)|((with_reducible first|refine dw_reg0 ?_|refine dw_regB ?_);(conv=>arg 3;whnf))|(refine Spl.go (fun hq he=>?_) (fun hq he=>?_)<;>first|(exfalso;clear hq;omega)|((try first|(conv=>arg 8;simp only [hq])|(conv=>arg 4;simp only [hq]));clear hq))|((with_reducible first|refine c_split (fun hq=>?_) (fun hq=>?_)|refine q_split (fun hq=>?_) (fun hq=>?_))<;>(try first|(conv=>arg 8;simp only [hq])|(conv=>arg 4;simp only [hq])))|(with_reducible refine fin_0 ?_ (by first|rfl|(conv=>lhs;simp only [go_sem,List.getElem?_map,hx,Option.map_some])) ?_)|exact Sub.refl _|omega)
    refine c_doesE (hix) ?_ ?_ ?_
    ·((try (conv=>rhs;simp (disch:=omega) only [go_sem])); try rfl)
    ·first|rfl|(conv=>lhs;simp only [go_sem])
    repeat' (first|with_reducible refine acc_none ?_ | (conv in hold _=>simp (disch:=omega) only [go_sem])|refine Stp.go ?_|(with_reducible first|refine it_pos rfl ?_|refine it_neg (by decide) ?_|refine st_nil rfl ?_|refine s_op ?_ ?_|exact trivial)|((with_reducible first|refine dw_reg0 ?_|refine dw_regB ?_);(conv=>arg 3;whnf))|(refine Spl.go (fun hq he=>?_) (fun hq he=>?_)<;>first|(exfalso;clear hq;omega)|((try first|(conv=>arg 8;simp only [hq])|(conv=>arg 4;simp only [hq]));clear hq))|((with_reducible first|refine c_split (fun hq=>?_) (fun hq=>?_)|refine q_split (fun hq=>?_) (fun hq=>?_))<;>(try first|(conv=>arg 8;simp only [hq])|(conv=>arg 4;simp only [hq])))|(with_reducible refine fin_0 ?_ (by first|rfl|(conv=>lhs;simp only [go_sem])) ?_)|exact Sub.refl _|omega)
    refine ⟨hlt1,trivial,Wk.list [1000000,1000001,1000002,2000040] rfl rfl ?_⟩
    repeat' (first|(conv in hold _=>simp (disch:=omega) only [go_sem])|exact trivial|exact Sub.refl _|omega)
    rw [hmt,hnx,List.map_append,List.map_cons,List.map_nil,eD_eq (subE bs x)]
   ·have e1 : (subL bs e.ks).take e.ks.length = subL bs e.ks:=List.take_of_length_le (by omega)
    have e2 : ((subL bs e.ks).map eD).take e.ks.length = (subL bs e.ks).map eD:=List.take_of_length_le (by rw [List.length_map]; omega)
    repeat' (first|with_reducible refine acc_none ?_ | (conv in hold _=>simp (disch:=omega) only [go_sem,e1])|refine Stp.go ?_|(with_reducible first|refine it_pos rfl ?_|refine it_neg (by decide) ?_|refine st_nil rfl ?_|refine s_op ?_ ?_|exact trivial)|((with_reducible first|refine dw_reg0 ?_|refine dw_regB ?_);(conv=>arg 3;whnf))|(refine Spl.go (fun hq he=>?_) (fun hq he=>?_)<;>first|(exfalso;clear hq;omega)|((try first|(conv=>arg 8;simp only [hq])|(conv=>arg 4;simp only [hq]));clear hq))|((with_reducible first|refine c_split (fun hq=>?_) (fun hq=>?_)|refine q_split (fun hq=>?_) (fun hq=>?_))<;>(try first|(conv=>arg 8;simp only [hq])|(conv=>arg 4;simp only [hq])))|exact Sub.refl _|omega)
    refine fin_wk (wk_frzO 1000001 1000003 (by decide) (by decide) rfl (by decide) rfl ?_) ?_
    rotate_left
    (conv in hold _=>simp (disch:=omega) only [go_sem,e1,e2,hll,Nat.le_refl])
    ·refine fin_L [] ?_ ?_ rfl ?_
     repeat' (first|(conv in hold _=>simp (disch:=omega) only [go_sem])|exact trivial|exact Sub.refl _|omega)
    ·exact exprs_pur _
end Go.Proofs.YtgpdmgaemhelgaaGreat
set_option maxHeartbeats 4000000
set_option maxRecDepth 100000
set_option linter.unusedVariables false
set_option linter.unusedSimpArgs false
namespace Go.Proofs.YtgpdmgaemhelgaaGreat
open Go.RowKit
def eC (a : E) : List D:=[I a.k,I a.c,Bo a.v.b,I a.v.n,.sl 5 (a.ks.map eD)]
theorem eD_eC (a : E) : eD a = .agg (eC a):=eD_eq a
theorem leafC (c : Int) : SubL [I 1,I c,Bo false,I 0,.nul] (eC (.mk 1 c ⟨false,0⟩ [])):=⟨Sub.refl _,Sub.refl _,Sub.refl _,Sub.refl _,Sub.nul 5,trivial⟩
theorem oneS {cs : List D} {a : E} (h : SubL cs (eC a)) : Sub (.sl 5 [.agg cs]) (.sl 5 [eD a]):=by
 rw [eD_eC]
 refine Sub.sl rfl (fun e he=>by rw [List.mem_singleton.1 he]; rfl) ?_
 have e1 : ∀ l : List D,D.flat [.agg l] = l:=fun l=>by unfold D.flat; rw [List.flatMap_cons,List.flatMap_nil,List.append_nil]; rfl
 rw [e1,e1]
 exact h
theorem twoS {cs ds : List D} {a b : E} (h : SubL cs (eC a)) (h' : SubL ds (eC b)) : Sub (.sl 5 [.agg cs,.agg ds]) (.sl 5 [eD a,eD b]):=by
 rw [eD_eC,eD_eC]
 refine Sub.sl rfl (fun e he=>?_) ?_
 ·rcases List.mem_cons.1 he with rfl | he
  ·rfl
  ·rw [List.mem_singleton.1 he]; rfl
 have e1 : ∀ l k : List D,D.flat [.agg l,.agg k] = l ++ k:=fun l k=>by unfold D.flat; rw [List.flatMap_cons,List.flatMap_cons,List.flatMap_nil,List.append_nil]; rfl
 rw [e1,e1]
 exact h.append h'
theorem oneC {k : Int} {cs : List D} {a : E} (h : SubL cs (eC a)) : SubL [I k,I 0,Bo false,I 0,.sl 5 [.agg cs]] (eC (.mk k 0 ⟨false,0⟩ [a])):=⟨Sub.refl _,Sub.refl _,Sub.refl _,Sub.refl _,oneS h,trivial⟩
theorem twoC {k : Int} {cs ds : List D} {a b : E} (h : SubL cs (eC a)) (h' : SubL ds (eC b)) : SubL [I k,I 0,Bo false,I 0,.sl 5 [.agg cs,.agg ds]] (eC (.mk k 0 ⟨false,0⟩ [a,b])):=⟨Sub.refl _,Sub.refl _,Sub.refl _,Sub.refl _,twoS h h',trivial⟩
def cbd : Nat → Nat
 | 0=>80
 | d + 1=>80 + cbd d
theorem cond_step {bs : List Nat} (hs : Src bs) (n : Int) (hn : n < 1000) (d : Nat) (ih : ∀ (d' p : Nat),d = d' + 1 → p + cbd d' < 700000000 → ∃ (e : E) (q : Nat),Does Tryz.prog 178 [rdD bs p] [.ref 1000000 0,I n,I d'] (eD e) [rdD bs q] ∧ p ≤ q ∧ q ≤ p + cbd d' ∧ esz e ≤ 10 + 4 * d')
  (p : Nat) (hd : d ≤ 2) (hp : p + cbd d < 700000000) : ∃ (e : E) (q : Nat),Does Tryz.prog 178 [rdD bs p] [.ref 1000000 0,I n,I d] (eD e) [rdD bs q] ∧ p ≤ q ∧ q ≤ p + cbd d ∧ esz e ≤ 10 + 4 * d:=by
 have hb : bnd 2 = 65:=by decide
 have hz : szb 2 = 7:=by decide
 have hcb : 80 ≤ cbd d:=by cases d <;> simp [cbd]
 obtain ⟨c,hc,_⟩:=pick_ok hs p (by omega) n (by omega)
 obtain ⟨m,hm,_⟩:=pick_ok hs (p + 1) (by omega) 4 (by omega)
 have hcon:=constant_ok ⟨false,m⟩
 obtain ⟨j,hj,j0,j1,_⟩:=pick_ok hs (p + 2) (by omega) 3 (by omega)
 by_cases hj0 : j = 0
 ·obtain ⟨c',hc',_⟩:=pick_ok hs (p + 3) (by omega) n (by omega)
  obtain ⟨k,hk,k0,k1,_⟩:=pick_ok hs (p + 4) (by omega) 8 (by omega)
  have hk1:=k1 (by omega)
  have hk7 : k = 0 ∨ (k = 2 ∧ ¬ d = 0) ∨ (k = 2 ∧ d = 0) ∨ k = 1 ∨ k = 3 ∨ k = 4 ∨ k = 5 ∨ k = 6 ∨ k = 7:=by omega
  obtain ⟨ee,qe,hxe,hqe0,hqe1⟩:=randomExpr_ok hs n hn 2 (p + 5) (by omega)
  rcases hk7 with rfl | ⟨rfl,hd0⟩ | ⟨rfl,hd0⟩ | rfl | rfl | rfl | rfl | rfl | rfl
  ·refine ⟨ee,qe,?_,by omega,by (try simp only [esz,eszL]); omega⟩
   refine Bk c_Z103 mixed 1 (go1 trivial ?_)
   refine UcR [1000000] trivial (hc) (go1 trivial ?_)
   refine UcR [1000000] trivial (hm) (go1 trivial ?_)
   refine Uc trivial (hcon) (go1 trivial ?_)
   refine UcR [1000000] trivial (hj) (go1 trivial ?_)
   refine UcR [1000000] trivial (hc') (go1 trivial ?_)
   refine UcR [1000000] trivial (hk) (go1 trivial ?_)
   refine UcR [1000000] trivial (hxe) (go1 trivial ?_)
   refine fin_L [1000000] ?_ ?_ rfl ?_
   repeat' (first|(conv in hold _=>simp (disch:=omega) only [go_sem])|exact trivial|exact Sub.refl _|omega)
  ·obtain ⟨d',rfl⟩ : ∃ d',d = d' + 1:=⟨d - 1,by omega⟩
   have hcd : cbd (d' + 1) = 80 + cbd d':=rfl
   obtain ⟨e2,q2,hx2,hq0,hq1⟩:=ih d' (p + 5) rfl (by omega)
   refine ⟨.mk 8 0 ⟨false,0⟩ [e2,.mk 6 0 ⟨false,0⟩ [(.mk 1 c ⟨false,0⟩ []),(.mk 1 c' ⟨false,0⟩ [])]],q2,?_,by omega,by (try simp only [esz,eszL]); omega⟩
   refine Bk c_Z103 mixed 1 (go1 trivial ?_)
   refine UcR [1000000] trivial (hc) (go1 trivial ?_)
   refine UcR [1000000] trivial (hm) (go1 trivial ?_)
   refine Uc trivial (hcon) (go1 trivial ?_)
   refine UcR [1000000] trivial (hj) (go1 trivial ?_)
   refine UcR [1000000] trivial (hc') (go1 trivial ?_)
   refine UcR [1000000] trivial (hk) (go1 trivial ?_)
   refine UcR [1000000] trivial (hx2) (go1 trivial ?_)
   refine fin_L [1000000] ?_ ?_ rfl ?_
   repeat' (first|(conv in hold _=>simp (disch:=omega) only [go_sem])|exact trivial|exact Sub.refl _|omega)
   have h:=Sub.agg (twoC (k:=8) (SubL.refl (eC e2)) (twoC (k:=6) (leafC c) (leafC c')))
   simp only [eC,eD_eq,E.k_mk,E.c_mk,E.v_mk,E.ks_mk,List.map_cons,List.map_nil] at h
   exact h
  refine ⟨.mk 7 0 ⟨false,0⟩ [(.mk 1 c ⟨false,0⟩ []),(.mk 1 c' ⟨false,0⟩ [])],p + 5,?_,by omega,by (try simp only [esz,eszL]); omega⟩
  rotate_left
  refine ⟨.mk 10 0 ⟨false,0⟩ [.mk 11 0 ⟨false,0⟩ [(.mk 1 c ⟨false,0⟩ [])]],p + 5,?_,by omega,by (try simp only [esz,eszL]); omega⟩
  rotate_left
  refine ⟨.mk 7 0 ⟨false,0⟩ [(.mk 1 c' ⟨false,0⟩ []),(.mk 1 c ⟨false,0⟩ [])],p + 5,?_,by omega,by (try simp only [esz,eszL]); omega⟩
  rotate_left
  refine ⟨.mk 7 0 ⟨false,0⟩ [(.mk 1 c' ⟨false,0⟩ []),(.mk 1 c ⟨false,0⟩ [])],p + 5,?_,by omega,by (try simp only [esz,eszL]); omega⟩
  rotate_left
  refine ⟨.mk 7 0 ⟨false,0⟩ [(.mk 1 c ⟨false,0⟩ []),(.mk 1 c' ⟨false,0⟩ [])],p + 5,?_,by omega,by (try simp only [esz,eszL]); omega⟩
  rotate_left
  refine ⟨.mk 6 0 ⟨false,0⟩ [(.mk 1 c ⟨false,0⟩ []),(.mk 1 c' ⟨false,0⟩ [])],p + 5,?_,by omega,by (try simp only [esz,eszL]); omega⟩
  rotate_left
  refine ⟨.mk 6 0 ⟨false,0⟩ [(.mk 1 c ⟨false,0⟩ []),(.mk 1 c' ⟨false,0⟩ [])],p + 5,?_,by omega,by (try simp only [esz,eszL]); omega⟩
  rotate_left
  all_goals
   refine Bk c_Z103 mixed 1 (go1 trivial ?_)
   refine UcR [1000000] trivial (hc) (go1 trivial ?_)
   refine UcR [1000000] trivial (hm) (go1 trivial ?_)
   refine Uc trivial (hcon) (go1 trivial ?_)
   refine UcR [1000000] trivial (hj) (go1 trivial ?_)
   refine UcR [1000000] trivial (hc') (go1 trivial ?_)
   refine UcR [1000000] trivial (hk) (go1 trivial ?_)
   refine fin_L [1000000] ?_ ?_ rfl ?_
   repeat' (first|(conv in hold _=>simp (disch:=omega) only [go_sem])|exact trivial|exact Sub.refl _|omega)
  ·exact Sub.agg (twoC (leafC c) (leafC c'))
  ·exact Sub.agg (oneC (oneC (leafC c)))
  ·exact Sub.agg (twoC (leafC c') (leafC c))
  ·exact Sub.agg (twoC (leafC c') (leafC c))
  ·exact Sub.agg (twoC (leafC c) (leafC c'))
  ·exact Sub.agg (twoC (leafC c) (leafC c'))
  ·exact Sub.agg (twoC (leafC c) (leafC c'))
 ·obtain ⟨k,hk,k0,k1,_⟩:=pick_ok hs (p + 3) (by omega) 8 (by omega)
  have hk1:=k1 (by omega)
  have hk7 : k = 0 ∨ (k = 2 ∧ ¬ d = 0) ∨ (k = 2 ∧ d = 0) ∨ k = 1 ∨ k = 3 ∨ k = 4 ∨ k = 5 ∨ k = 6 ∨ k = 7:=by omega
  obtain ⟨ee,qe,hxe,hqe0,hqe1⟩:=randomExpr_ok hs n hn 2 (p + 4) (by omega)
  rcases hk7 with rfl | ⟨rfl,hd0⟩ | ⟨rfl,hd0⟩ | rfl | rfl | rfl | rfl | rfl | rfl
  ·refine ⟨ee,qe,?_,by omega,by (try simp only [esz,eszL]); omega⟩
   refine Bk c_Z103 mixed 1 (go1 trivial ?_)
   refine UcR [1000000] trivial (hc) (go1 trivial ?_)
   refine UcR [1000000] trivial (hm) (go1 trivial ?_)
   refine Uc trivial (hcon) (go1 trivial ?_)
   refine UcR [1000000] trivial (hj) (go1 trivial ?_)
   refine UcR [1000000] trivial (hk) (go1 trivial ?_)
   refine UcR [1000000] trivial (hxe) (go1 trivial ?_)
   refine fin_L [1000000] ?_ ?_ rfl ?_
   repeat' (first|(conv in hold _=>simp (disch:=omega) only [go_sem])|exact trivial|exact Sub.refl _|omega)
  ·obtain ⟨d',rfl⟩ : ∃ d',d = d' + 1:=⟨d - 1,by omega⟩
   have hcd : cbd (d' + 1) = 80 + cbd d':=rfl
   obtain ⟨e2,q2,hx2,hq0,hq1⟩:=ih d' (p + 4) rfl (by omega)
   refine ⟨.mk 8 0 ⟨false,0⟩ [e2,.mk 6 0 ⟨false,0⟩ [(.mk 1 c ⟨false,0⟩ []),(.mk 2 0 ⟨false,m⟩ [])]],q2,?_,by omega,by (try simp only [esz,eszL]); omega⟩
   refine Bk c_Z103 mixed 1 (go1 trivial ?_)
   refine UcR [1000000] trivial (hc) (go1 trivial ?_)
   refine UcR [1000000] trivial (hm) (go1 trivial ?_)
   refine Uc trivial (hcon) (go1 trivial ?_)
   refine UcR [1000000] trivial (hj) (go1 trivial ?_)
   refine UcR [1000000] trivial (hk) (go1 trivial ?_)
   refine UcR [1000000] trivial (hx2) (go1 trivial ?_)
   refine fin_L [1000000] ?_ ?_ rfl ?_
   repeat' (first|(conv in hold _=>simp (disch:=omega) only [go_sem])|exact trivial|exact Sub.refl _|omega)
   have h:=Sub.agg (twoC (k:=8) (SubL.refl (eC e2)) (twoC (k:=6) (leafC c) (SubL.refl (eC (.mk 2 0 ⟨false,m⟩ [])))))
   simp only [eC,eD_eq,E.k_mk,E.c_mk,E.v_mk,E.ks_mk,List.map_cons,List.map_nil] at h
   exact h
  refine ⟨.mk 7 0 ⟨false,0⟩ [(.mk 1 c ⟨false,0⟩ []),(.mk 2 0 ⟨false,m⟩ [])],p + 4,?_,by omega,by (try simp only [esz,eszL]); omega⟩
  rotate_left
  refine ⟨.mk 10 0 ⟨false,0⟩ [.mk 11 0 ⟨false,0⟩ [(.mk 1 c ⟨false,0⟩ [])]],p + 4,?_,by omega,by (try simp only [esz,eszL]); omega⟩
  rotate_left
  refine ⟨.mk 7 0 ⟨false,0⟩ [(.mk 2 0 ⟨false,m⟩ []),(.mk 1 c ⟨false,0⟩ [])],p + 4,?_,by omega,by (try simp only [esz,eszL]); omega⟩
  rotate_left
  refine ⟨.mk 7 0 ⟨false,0⟩ [(.mk 2 0 ⟨false,m⟩ []),(.mk 1 c ⟨false,0⟩ [])],p + 4,?_,by omega,by (try simp only [esz,eszL]); omega⟩
  rotate_left
  refine ⟨.mk 7 0 ⟨false,0⟩ [(.mk 1 c ⟨false,0⟩ []),(.mk 2 0 ⟨false,m⟩ [])],p + 4,?_,by omega,by (try simp only [esz,eszL]); omega⟩
  rotate_left
  refine ⟨.mk 6 0 ⟨false,0⟩ [(.mk 1 c ⟨false,0⟩ []),(.mk 2 0 ⟨false,m⟩ [])],p + 4,?_,by omega,by (try simp only [esz,eszL]); omega⟩
  rotate_left
  refine ⟨.mk 6 0 ⟨false,0⟩ [(.mk 1 c ⟨false,0⟩ []),(.mk 2 0 ⟨false,m⟩ [])],p + 4,?_,by omega,by (try simp only [esz,eszL]); omega⟩
  rotate_left
  all_goals
   refine Bk c_Z103 mixed 1 (go1 trivial ?_)
   refine UcR [1000000] trivial (hc) (go1 trivial ?_)
   refine UcR [1000000] trivial (hm) (go1 trivial ?_)
   refine Uc trivial (hcon) (go1 trivial ?_)
   refine UcR [1000000] trivial (hj) (go1 trivial ?_)
   refine UcR [1000000] trivial (hk) (go1 trivial ?_)
   refine fin_L [1000000] ?_ ?_ rfl ?_
   repeat' (first|(conv in hold _=>simp (disch:=omega) only [go_sem])|exact trivial|exact Sub.refl _|omega)
  ·exact Sub.agg (twoC (leafC c) (SubL.refl (eC (.mk 2 0 ⟨false,m⟩ []))))
  ·exact Sub.agg (oneC (oneC (leafC c)))
  ·exact Sub.agg (twoC (SubL.refl (eC (.mk 2 0 ⟨false,m⟩ []))) (leafC c))
  ·exact Sub.agg (twoC (SubL.refl (eC (.mk 2 0 ⟨false,m⟩ []))) (leafC c))
  ·exact Sub.agg (twoC (leafC c) (SubL.refl (eC (.mk 2 0 ⟨false,m⟩ []))))
  ·exact Sub.agg (twoC (leafC c) (SubL.refl (eC (.mk 2 0 ⟨false,m⟩ []))))
  ·exact Sub.agg (twoC (leafC c) (SubL.refl (eC (.mk 2 0 ⟨false,m⟩ []))))
theorem condition_ok {bs : List Nat} (hs : Src bs) (n : Int) (hn : n < 1000) : ∀ (d : Nat) (p : Nat),d ≤ 2 → p + cbd d < 700000000 → ∃ (e : E) (q : Nat),
  Does Tryz.prog 178 [rdD bs p] [.ref 1000000 0,I n,I d] (eD e) [rdD bs q] ∧ p ≤ q ∧ q ≤ p + cbd d ∧ esz e ≤ 10 + 4 * d:=by
 intro d
 induction d with
 | zero=>exact fun p hd hp=>cond_step hs n hn 0 (fun d' p h=>by omega) p hd hp
 | succ d ih=>
  intro p hd hp
  exact cond_step hs n hn (d + 1) (fun d' p h hp=>by
   obtain rfl : d = d':=by omega
   exact ih p (by omega) hp) p hd hp
theorem randomCondition_ok {bs : List Nat} (hs : Src bs) (n : Int) (hn : n < 1000) (p : Nat) (hp : p < 600000000) : ∃ (e : E) (q : Nat),
  Does Tryz.prog 155 [rdD bs p] [.ref 1000000 0,I n] (eD e) [rdD bs q] ∧ p ≤ q ∧ q ≤ p + 240 ∧ esz e ≤ 18:=by
 have hb : cbd 2 = 240:=by decide
 obtain ⟨e,q,he,h0,h1⟩:=condition_ok hs n hn 2 p (by decide) (by omega)
 refine ⟨e,q,?_,by omega,by (try simp only [esz,eszL]); omega⟩
 refine Bk c_Z21 mixed 1 (go1 trivial ?_)
 refine UcR [1000000] trivial (he) (go1 trivial ?_)
 refine fin_L [1000000] ?_ ?_ rfl ?_
 repeat' (first|(conv in hold _=>simp (disch:=omega) only [go_sem])|exact trivial|exact Sub.refl _|omega)
end Go.Proofs.YtgpdmgaemhelgaaGreat
