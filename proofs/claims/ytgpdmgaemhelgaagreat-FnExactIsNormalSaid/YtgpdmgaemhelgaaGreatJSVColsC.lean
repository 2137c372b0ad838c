/-
  The fields of plans, in both packages. No condition.
-/
import Derived.Test.YtgpdmgaemhelgaaGreatJSDcVWid
import Derived.Test.YtgpdmgaemhelgaaGreatKSDca
import Derived.Test.YtgpdmgaemhelgaaGreatJSVOcc
import Derived.Test.YtgpdmgaemhelgaaGreatJSVEvI
import Derived.Test.YtgpdmgaemhelgaaGreatJSVEvS
import Derived.Test.YtgpdmgaemhelgaaGreatJSVCpE
import Derived.Test.YtgpdmgaemhelgaaGreatJSVGo
import Derived.Test.YtgpdmgaemhelgaaGreatJSVVa
import Derived.Test.YtgpdmgaemhelgaaGreatJSVClB
import Derived.Test.YtgpdmgaemhelgaaGreatKSDcd
set_option maxHeartbeats 4000000
set_option maxRecDepth 100000
namespace Go.Proofs.YtgpdmgaemhelgaaGreat
open Go.RowKit
def fields (p : Pl) : Prop:=(1 ≤ p.k ∧ p.k ≤ 8) ∧ (p.k = 1 → p.ks.length = 0) ∧ (p.k = 4 ∨ p.k = 5 ∨ p.k = 6 → p.ks.length = 2) ∧ (p.k = 2 ∨ p.k = 3 ∨ p.k = 7 ∨ p.k = 8 → p.ks.length = 1) ∧
 (p.k = 2 ∨ p.k = 4 ∨ p.k = 5 → p.es.length = 1) ∧ (p.k = 1 ∨ p.k = 6 ∨ p.k = 7 ∨ p.k = 8 → p.es.length = 0) ∧ (p.t = 0 ∨ p.k = 1) ∧ (p.cs.length = 0 ∨ p.k = 8)
noncomputable instance fieldsDec (p : Pl) : Decidable (fields p):=Classical.propDecidable _
theorem onlyFields_ok (p : Pl) : Does Tryz.prog 137 [] [pD p] (Bo (decide (fields p))) []:=by
 have hr:=inRange_ok p.k 1 8
 by_cases hk : 1 ≤ p.k ∧ p.k ≤ 8
 ·rw [decide_eq_true hk] at hr
  refine does0 c_Z76 mixed (Nat.le_of_ble_eq_true rfl) ?_
  conv=>arg 3; whnf
  repeat' (first|with_reducible refine acc_none ?_ | (conv in hold _=>simp (disch:=omega) only [go_sem])|refine Stp.go ?_|(with_reducible first|refine it_pos rfl ?_|refine it_neg (by decide) ?_|refine st_nil rfl ?_|refine s_op ?_ ?_|exact trivial)|((with_reducible first|refine dw_reg0 ?_|refine dw_regB ?_);(conv=>arg 3;whnf))|(refine Spl.go (fun hq he=>?_) (fun hq he=>?_)<;>first|(exfalso;clear hq;omega)|((try first|(conv=>arg 8;simp only [hq])|(conv=>arg 4;simp only [hq]));clear hq))|((with_reducible first|refine c_split (fun hq=>?_) (fun hq=>?_)|refine q_split (fun hq=>?_) (fun hq=>?_))<;>(try first|(conv=>arg 8;simp only [hq])|(conv=>arg 4;simp only [hq])))|(with_reducible refine fin_0 ?_ (by first|rfl|(conv=>lhs;simp only [go_sem])) ?_)|exact Sub.refl _|omega)
  all_goals
   refine c_doesE (hr) ?_ ?_ ?_
   ·((try (conv=>rhs;simp (disch:=omega) only [go_sem])); try rfl)
   ·first|rfl|(conv=>lhs;simp only [go_sem])
   repeat' (first|with_reducible refine acc_none ?_ | (conv in hold _=>simp (disch:=omega) only [go_sem])|refine Stp.go ?_|(with_reducible first|refine it_pos rfl ?_|refine it_neg (by decide) ?_|refine st_nil rfl ?_|refine s_op ?_ ?_|exact trivial)|((with_reducible first|refine dw_reg0 ?_|refine dw_regB ?_);(conv=>arg 3;whnf))|(refine Spl.go (fun hq he=>?_) (fun hq he=>?_)<;>first|(exfalso;clear hq;omega)|((try first|(conv=>arg 8;simp only [hq])|(conv=>arg 4;simp only [hq]));clear hq))|((with_reducible first|refine c_split (fun hq=>?_) (fun hq=>?_)|refine q_split (fun hq=>?_) (fun hq=>?_))<;>(try first|(conv=>arg 8;simp only [hq])|(conv=>arg 4;simp only [hq])))|(with_reducible refine fin_0 ?_ (by first|rfl|(conv=>lhs;simp only [go_sem])) ?_)|exact Sub.refl _|omega)
  all_goals first
   | exact sub_f (fun h=>by unfold fields at h; omega)
   | exact sub_iff ⟨fun _=>by unfold fields; omega,fun _=>rfl⟩
   | exact sub_iff ⟨fun h'=>by unfold fields; simp at h'; omega,fun h'=>by unfold fields at h'; simp; omega⟩
 ·rw [decide_eq_false hk] at hr
  refine Bg c_Z76 mixed (go1 trivial ?_)
  refine Uc trivial (hr) (go1 trivial ?_)
  exact sub_f (fun h=>hk h.1)
def fieldsI (p : Pl) : Prop:=fields p ∧ (p.k = 3 → 1 ≤ p.es.length ∧ p.es.length ≤ 6)
noncomputable instance fieldsIDec (p : Pl) : Decidable (fieldsI p):=Classical.propDecidable _
theorem shapeOf_ok (k : Int) (h : 1 ≤ k ∧ k ≤ 8) : Does Tryz.prog 144 [] [I k] (.tup [.agg [I (if k = 2 ∨ k = 3 ∨ k = 4 ∨ k = 5 then 1 else 0),I (if k = 3 then 6 else if k = 2 ∨ k = 4 ∨ k = 5 then 1 else 0),I (if k = 1 then 0 else if k = 4 ∨ k = 5 ∨ k = 6 then 2 else 1)],Bo true]) []:=by
 refine does0 c_Z117 mixed (Nat.le_of_ble_eq_true rfl) ?_
 conv=>arg 3; whnf
 repeat' (first|with_reducible refine acc_none ?_ | (conv in hold _=>simp (disch:=omega) only [go_sem])|refine Stp.go ?_|(with_reducible first|refine it_pos rfl ?_|refine it_neg (by decide) ?_|refine st_nil rfl ?_|refine s_op ?_ ?_|exact trivial)|((with_reducible first|refine dw_reg0 ?_|refine dw_regB ?_);(conv=>arg 3;whnf))|(refine Spl.go (fun hq he=>?_) (fun hq he=>?_)<;>first|(exfalso;clear hq;omega)|((try first|(conv=>arg 8;simp only [hq])|(conv=>arg 4;simp only [hq]));clear hq))|((with_reducible first|refine c_split (fun hq=>?_) (fun hq=>?_)|refine q_split (fun hq=>?_) (fun hq=>?_))<;>(try first|(conv=>arg 8;simp only [hq])|(conv=>arg 4;simp only [hq])))|(with_reducible refine fin_0 ?_ (by first|rfl|(conv=>lhs;simp only [go_sem])) ?_)|exact Sub.refl _|omega)
 all_goals exact Sub.of_eq (by subst he; rfl)
theorem shapeOf_no (k : Int) (h : ¬ (1 ≤ k ∧ k ≤ 8)) : Does Tryz.prog 144 [] [I k] (.tup [.agg [I 0,I 0,I 0],Bo false]) []:=by
 exact Bg c_Z117 mixed (go0 trivial)
theorem hasOwnFields_ok (p : Pl) : Does Tryz.prog 100 [] [pD p] (Bo (decide (fieldsI p))) [] := by
  by_cases hk : 1 ≤ p.k ∧ p.k ≤ 8
  · have hs := shapeOf_ok p.k hk
    refine Bg c_Z39 mixed (go1 trivial ?_)
    refine c_doesE (hs) ?_ ?_ ?_
    · ((try (conv=>rhs;simp (disch:=omega) only [go_sem])); try rfl)
    · first|rfl|(conv=>lhs;simp only [go_sem])
    repeat' (first|with_reducible refine acc_none ?_ | (conv in hold _=>simp (disch:=omega) only [go_sem])|refine Stp.go ?_|(with_reducible first|refine it_pos rfl ?_|refine it_neg (by decide) ?_|refine st_nil rfl ?_|refine s_op ?_ ?_|exact trivial)|((with_reducible first|refine dw_reg0 ?_|refine dw_regB ?_);(conv=>arg 3;whnf))|(refine Spl.go (fun hq he=>?_) (fun hq he=>?_)<;>first|(exfalso;clear hq;omega)|((try first|(conv=>arg 8;simp only [hq])|(conv=>arg 4;simp only [hq]));clear hq))|((with_reducible first|refine c_split (fun hq=>?_) (fun hq=>?_)|refine q_split (fun hq=>?_) (fun hq=>?_))<;>(try first|(conv=>arg 8;simp only [hq])|(conv=>arg 4;simp only [hq])))|(with_reducible refine fin_0 ?_ (by first|rfl|(conv=>lhs;simp only [go_sem])) ?_)|exact Sub.refl _|omega)
    all_goals first
      | exact sub_f (fun h => by unfold fieldsI fields at h; omega)
      | exact sub_iff ⟨fun _ => by unfold fieldsI fields; omega, fun _ => rfl⟩
      | exact sub_iff ⟨fun h' => by unfold fieldsI fields; simp at h'; omega, fun h' => by unfold fieldsI fields at h'; simp; omega⟩
      | (by_cases h0 : p.cs.length = 0
         · exact Sub.of_eq (by rw [h0, decide_eq_true (show fieldsI p by unfold fieldsI fields; omega)]; rfl)
         · exact Sub.of_eq (by rw [decide_eq_false (fun h : fieldsI p => by unfold fieldsI fields at h; omega), beq_eq_false_iff_ne.2 (by omega)]))
  · have hs := shapeOf_no p.k hk
    refine Bg c_Z39 mixed (go1 trivial ?_)
    refine Uc trivial (hs) (go1 trivial ?_)
    exact sub_f (fun h => hk h.1.1)
end Go.Proofs.YtgpdmgaemhelgaaGreat
set_option maxHeartbeats 4000000
set_option maxRecDepth 100000
set_option linter.unusedVariables false
set_option linter.unusedSimpArgs false
namespace Go.Proofs.YtgpdmgaemhelgaaGreat
open Go.RowKit
def kidAt (p : Pl) (i : Int) : Option Pl:=if 0 ≤ i then p.ks[i.toNat]? else none
def paOf : Pl → List Int → Option Pl
 | p,[]=>some p
 | p,i :: l=>(kidAt p i).bind fun q=>paOf q l
theorem paOf_append : ∀ (l m : List Int) (p : Pl),paOf p (l ++ m) = (paOf p l).bind fun q=>paOf q m
 | [],m,p=>rfl
 | i :: l,m,p=>by
  rw [List.cons_append,paOf,paOf]
  cases kidAt p i with
  | none=>rfl
  | some q=>exact paOf_append l m q
theorem paOf_next {p : Pl} {l : List Int} {i : Nat} {x : Int} (h : l[i]? = some x) : paOf p (l.take (i + 1)) = (paOf p (l.take i)).bind fun q=>kidAt q x:=by
 rw [take_next h,paOf_append]
 congr 1
 funext q
 rw [paOf]
 cases kidAt q x with
 | none=>rfl
 | some y=>rfl
theorem kidAt_sz {p q : Pl} {i : Int} (h : kidAt p i = some q) : psz q ≤ psz p:=by
 unfold kidAt at h
 split at h
 ·have h1:=pszL_mem (List.mem_of_getElem? h)
  rw [psz_eq p]
  omega
 ·cases h
theorem paOf_sz : ∀ (l : List Int) (p q : Pl),paOf p l = some q → psz q ≤ psz p
 | [],p,q,h=>by
  obtain rfl : p = q:=by simpa [paOf] using h
  exact Nat.le_refl _
 | i :: l,p,q,h=>by
  rw [paOf] at h
  cases hk : kidAt p i with
  | none=>rw [hk] at h; cases h
  | some y=>
   rw [hk] at h
   have h1:=kidAt_sz hk
   have h2:=paOf_sz l y q h
   omega
theorem kidAt_some {p q : Pl} {i : Int} (h : kidAt p i = some q) : 0 ≤ i ∧ i < p.ks.length ∧ p.ks[i.toNat]? = some q:=by
 unfold kidAt at h
 split at h
 ·rename_i h0
  have:=(List.getElem?_eq_some_iff.1 h).1
  exact ⟨h0,by omega,h⟩
 ·cases h
theorem kidAt_none {p : Pl} {i : Int} (h : kidAt p i = none) : ¬ (0 ≤ i ∧ i < p.ks.length):=by
 rintro ⟨h0,h1⟩
 unfold kidAt at h
 rw [if_pos h0,List.getElem?_eq_none_iff] at h
 omega
def zP : Pl:=.mk 0 0 [] [] []
def paV (m : Nat) (p : Pl) (l : List Int) : Option Pl:=if l.length ≤ m then paOf p l else none
def paD : Option Pl → D
 | some q=>.tup [pD q,Bo true]
 | none=>.tup [pD zP,Bo false]
theorem zP_sub : Sub (.tup [.agg [I 0,I 0,.nul,.nul,.nul],Bo false]) (paD none):=Sub.tup ⟨by rw [pD_eq]; exact Sub.agg ⟨Sub.refl _,Sub.refl _,Sub.nul 5,Sub.nul 1,Sub.nul 5,trivial⟩,Sub.refl _,trivial⟩
theorem paD_pur (o : Option Pl) : (paD o).pur = true:=by
 cases o with
 | none=>show (D.tup [pD zP,Bo false]).pur = true; rw [pD_eq]; rfl
 | some q=>show (D.tup [pD q,Bo true]).pur = true; rw [pD_eq]; rfl
end Go.Proofs.YtgpdmgaemhelgaaGreat
set_option maxHeartbeats 4000000
set_option maxRecDepth 100000
namespace Go.Proofs.YtgpdmgaemhelgaaGreat
open Go.RowKit
theorem truth_not_ok (n : Int) (h : 0 ≤ n ∧ n ≤ 2) : Does Tryz.prog 207 [] [I n] (I (2 - n)) []:=by
 refine does0 c_Z86 mixed (Nat.le_of_ble_eq_true rfl) ?_
 conv=>arg 3; whnf
 repeat' (first|with_reducible refine acc_none ?_ | (conv in hold _=>simp (disch:=omega) only [go_sem])|refine Stp.go ?_|(with_reducible first|refine it_pos rfl ?_|refine it_neg (by decide) ?_|refine st_nil rfl ?_|refine s_op ?_ ?_|exact trivial)|((with_reducible first|refine dw_reg0 ?_|refine dw_regB ?_);(conv=>arg 3;whnf))|(refine Spl.go (fun hq he=>?_) (fun hq he=>?_)<;>first|(exfalso;clear hq;omega)|((try first|(conv=>arg 8;simp only [hq])|(conv=>arg 4;simp only [hq]));clear hq))|((with_reducible first|refine c_split (fun hq=>?_) (fun hq=>?_)|refine q_split (fun hq=>?_) (fun hq=>?_))<;>(try first|(conv=>arg 8;simp only [hq])|(conv=>arg 4;simp only [hq])))|(with_reducible refine fin_0 ?_ (by first|rfl|(conv=>lhs;simp only [go_sem])) ?_)|exact Sub.refl _|omega)
theorem truth_value_ok (n : Int) : Does Tryz.prog 208 [] [I n] (vD (itv n)) []:=by
 refine does0 c_Z56 mixed (Nat.le_of_ble_eq_true rfl) ?_
 conv=>arg 3; whnf
 repeat' (first|with_reducible refine acc_none ?_ | (conv in hold _=>simp (disch:=omega) only [go_sem])|refine Stp.go ?_|(with_reducible first|refine it_pos rfl ?_|refine it_neg (by decide) ?_|refine st_nil rfl ?_|refine s_op ?_ ?_|exact trivial)|((with_reducible first|refine dw_reg0 ?_|refine dw_regB ?_);(conv=>arg 3;whnf))|(refine Spl.go (fun hq he=>?_) (fun hq he=>?_)<;>first|(exfalso;clear hq;omega)|((try first|(conv=>arg 8;simp only [hq])|(conv=>arg 4;simp only [hq]));clear hq))|((with_reducible first|refine c_split (fun hq=>?_) (fun hq=>?_)|refine q_split (fun hq=>?_) (fun hq=>?_))<;>(try first|(conv=>arg 8;simp only [hq])|(conv=>arg 4;simp only [hq])))|(with_reducible refine fin_0 ?_ (by first|rfl|(conv=>lhs;simp only [go_sem])) ?_)|exact Sub.refl _|omega)
 ·rw [show itv n = ⟨false,0⟩ from if_pos he]; exact Sub.refl _
 ·rw [show itv n = ⟨false,1⟩ by unfold itv; rw [if_neg (by omega),if_pos he]]; exact Sub.refl _
 ·rw [show itv n = ⟨true,0⟩ by unfold itv; rw [if_neg (by omega),if_neg he]]; exact Sub.refl _
end Go.Proofs.YtgpdmgaemhelgaaGreat
set_option maxHeartbeats 4000000
set_option maxRecDepth 100000
set_option linter.unusedVariables false
set_option linter.unusedSimpArgs false
namespace Go.Proofs.YtgpdmgaemhelgaaGreat
open Go.RowKit
theorem copyPlan_ok : ∀ p : Pl,psz p ≤ 900000 → Does Tryz.prog 64 [] [pD p] (pD p) []:=by
 refine Pl.indA (fun p ih h=>?_)
 rw [psz_eq] at h
 have hle:=eszL_len p.es
 have hlk:=pszL_len p.ks
 have hc:=take_all I p.cs
 refine Bg c_Z111 mixed (go1 trivial ?_)
 refine dw_for (c:=5) (l:=fun i=>[(1,.ref 1000000 0),(2,.ref 1000001 0),(3,.ref 1000002 0),(4,I i),(1000000,.obj [I p.k,I p.t,.sl 5 (p.es.map eD),.sl 1 (p.cs.map I),.sl 5 (p.ks.map pD)]),(1000001,.obj [I 0,I 0,.nul,.nul,.nul]),(1000002,.obj [I p.k,I p.t,.own 1000004 5 i,.own 1000003 1 p.cs.length,.nul]),(1000003,.row 1 (p.cs.map I)),(1000004,.row 5 ((p.es.take i).map eD))]) p.es.length (fun _=>True) 0 trivial ((wk_rowO 2000003 2000099 5 2 (by decide) (by decide) (by decide) rfl rfl rfl).trans (Wk.list [2000001,2000002,2000003,2000013,2000099] rfl rfl ?_)) (fun i hi _=>?_) (Nat.zero_le _)
 ·repeat' (first|(conv in hold _=>simp (disch:=omega) only [go_sem,hc])|exact trivial|exact Sub.refl _|omega)
  exact rfl
 ·have hlt:=take_len (vs:=p.es) (i:=i) (by omega)
  have hmt:=take_map eD (vs:=p.es) (i:=i) (by omega)
  rcases at_or_end hi with ⟨x,hx,hlt1⟩ | rfl
  ·have hix:=copyExpr_ok x (by have:=eszL_mem (List.mem_of_getElem? hx); omega)
   have hnx:=take_next hx
   refine go1 (cj2 @hx @hc) ?_
   refine Uc @hc (hix) (go1 @hc ?_)
   refine ⟨hlt1,trivial,Wk.list [1000000,1000001,1000002,1000003,2000031] rfl rfl ?_⟩
   repeat' (first|(conv in hold _=>simp (disch:=omega) only [go_sem,hc])|exact trivial|exact Sub.refl _|omega)
   rw [hmt,hnx,List.map_append,List.map_cons,List.map_nil,eD_eq x]
  ·have e1 : p.es.take p.es.length = p.es:=List.take_length
   have e2 : (p.es.map eD).take p.es.length = p.es.map eD:=take_all eD p.es
   refine go1 (cj2 @e1 @hc) ?_
   refine dw_for (c:=6) (l:=fun i=>[(1,.ref 1000000 0),(2,.ref 1000001 0),(3,.ref 1000002 0),(5,I i),(1000000,.obj [I p.k,I p.t,.sl 5 (p.es.map eD),.sl 1 (p.cs.map I),.sl 5 (p.ks.map pD)]),(1000001,.obj [I 0,I 0,.nul,.nul,.nul]),(1000002,.obj [I p.k,I p.t,.own 1000004 5 p.es.length,.own 1000003 1 p.cs.length,.own 1000005 5 i]),(1000003,.row 1 (p.cs.map I)),(1000004,.row 5 (p.es.map eD)),(1000005,.row 5 ((p.ks.take i).map pD))]) p.ks.length (fun _=>True) 0 trivial ((wk_rowO 1000002 2000099 5 4 (by decide) (by decide) (by decide) rfl rfl rfl).trans (Wk.list [1000000,1000001,1000002,1000003,1000004,2000099] rfl rfl ?_)) (fun i hi _=>?_) (Nat.zero_le _)
   ·repeat' (first|(conv in hold _=>simp (disch:=omega) only [go_sem,hc,e1,e2])|exact trivial|exact Sub.refl _|omega)
    exact rfl
   ·have hlt:=take_len (vs:=p.ks) (i:=i) (by omega)
    have hmt:=take_map pD (vs:=p.ks) (i:=i) (by omega)
    rcases at_or_end hi with ⟨x,hx,hlt1⟩ | rfl
    ·have hix:=ih x (List.mem_of_getElem? hx) (by have:=pszL_mem (List.mem_of_getElem? hx); omega)
     have hnx:=take_next hx
     refine go1 (cj3 @hx @hc @e2) ?_
     refine Uc (cj2 @hc @e2) (hix) (go1 (cj2 @hc @e2) ?_)
     refine ⟨hlt1,trivial,Wk.list [1000000,1000001,1000002,1000003,1000004,2000049] rfl rfl ?_⟩
     repeat' (first|(conv in hold _=>simp (disch:=omega) only [go_sem,hc,e2])|exact trivial|exact Sub.refl _|omega)
     rw [hmt,hnx,List.map_append,List.map_cons,List.map_nil,pD_eq x]
     rfl
    ·have e3 : p.ks.take p.ks.length = p.ks:=List.take_length
     have e4 : (p.ks.map pD).take p.ks.length = p.ks.map pD:=take_all pD p.ks
     refine go1F (cj3 @e3 @hc @e2) ?_
     refine fin_wk (wk_frzO 1000001 1000003 (by decide) (by decide) rfl (by decide) rfl ?_) ?_
     rotate_left
     (conv in hold _=>simp (disch:=omega) only [go_sem,e2,hc,e4])
     refine fin_wk (wk_frzO 1000001 1000004 (by decide) (by decide) rfl (by decide) rfl ?_) ?_
     rotate_left
     (conv in hold _=>simp (disch:=omega) only [go_sem,e2,hc,e4])
     refine fin_wk (wk_frzO 1000001 1000005 (by decide) (by decide) rfl (by decide) rfl ?_) ?_
     rotate_left
     (conv in hold _=>simp (disch:=omega) only [go_sem,e2,hc,e4])
     all_goals first
      | exact ints_pur _
      | exact exprs_pur _
      | exact plans_pur _
      | skip
     refine fin_L [] ?_ ?_ rfl ?_
     repeat' (first|(conv in hold _=>simp (disch:=omega) only [go_sem])|exact trivial|exact Sub.refl _|omega)
theorem plS {k t : Int} {es : List E} {cs : List Int} {ks : List Pl} {des dcs dks : D} (h1 : Sub des (.sl 5 (es.map eD))) (h2 : Sub dcs (.sl 1 (cs.map I))) (h3 : Sub dks (.sl 5 (ks.map pD))) : Sub (.agg [I k,I t,des,dcs,dks]) (pD (.mk k t es cs ks)):=by
 rw [pD_eq]
 exact Sub.agg ⟨Sub.refl _,Sub.refl _,h1,h2,h3,trivial⟩
theorem filterOf_ok (e : E) (x : Pl) : Does Tryz.prog 154 [] [eD e,pD x] (pD (.mk 2 0 [e] [] [x])) []:=by
 refine Bg c_Z112 mixed (go1 trivial ?_)
 have h : Sub (.agg [I 2,I 0,.sl 5 [eD e],.nul,.sl 5 [pD x]]) (pD (.mk 2 0 [e] [] [x])):=plS (Sub.refl _) (Sub.nul 1) (Sub.refl _)
 simp only [go_sem] at h
 exact h
end Go.Proofs.YtgpdmgaemhelgaaGreat
set_option maxHeartbeats 4000000
set_option maxRecDepth 100000
namespace Go.Proofs.YtgpdmgaemhelgaaGreat
open Go.RowKit
def intL (l : List Nat) : List D:=l.map fun j : Nat=>I (j : Int)
theorem intL_app (A B : List Nat) : intL (A ++ B) = intL A ++ intL B:=List.map_append
theorem intL_len (A : List Nat) : (intL A).length = A.length:=List.length_map _
theorem intL_pur (l : List Nat) : D.purL (intL l) = true:=nats_pur l
theorem intL_ren (L : List Nat) (l : List Nat) : D.renL L (intL l) = intL l:=ren_pure.renL_pure L _ (intL_pur l)
theorem intL_get {A : List Nat} {k a : Nat} (h : A[k]? = some a) (B : List Nat) : (intL (A ++ B))[k]? = some (I a):=by
 unfold intL
 rw [List.getElem?_map,List.getElem?_append_left (List.getElem?_eq_some_iff.1 h).1,h]
 rfl
theorem intL_mid (A : List Nat) (b : Nat) (B : List Nat) : (intL (A ++ b :: B))[A.length]? = some (I b):=by
 unfold intL
 rw [List.getElem?_map,List.getElem?_append_right (Nat.le_refl _),Nat.sub_self]
 rfl
theorem intL_take (A B : List Nat) : (intL (A ++ B)).take A.length = intL A:=by unfold intL; rw [← List.map_take,List.take_left']; rfl
theorem intL_drop (A B : List Nat) : (intL (A ++ B)).drop A.length = intL B:=by unfold intL; rw [← List.map_drop,List.drop_left']; rfl
theorem intL_all (A B : List Nat) : (intL (A ++ B)).take (A.length + B.length) = intL (A ++ B):=List.take_of_length_le (by rw [intL_len,List.length_append]; exact Nat.le_refl _)
theorem intL_all1 (A : List Nat) : (intL A).take A.length = intL A:=List.take_of_length_le (by rw [intL_len]; exact Nat.le_refl _)
attribute [go_sem] intL_len intL_pur intL_ren intL_mid intL_take intL_drop intL_all intL_all1
theorem intL_put (A B : List Nat) (n : Nat) : (intL A ++ [I n]).take (A.length + 1) ++ intL B = intL (A ++ n :: B):=by
 rw [List.take_of_length_le (by rw [List.length_append,intL_len]; exact Nat.le_refl _),List.append_assoc,intL_app]
 rfl
theorem intL_put0 (A : List Nat) (n : Nat) : (intL A ++ [I n]).take (A.length + 1) = intL (A ++ [n]):=by
 rw [List.take_of_length_le (by rw [List.length_append,intL_len]; exact Nat.le_refl _),intL_app]
 rfl
theorem intL_all2 (A B : List Nat) (b : Nat) : (intL (A ++ b :: B)).take (A.length + (B.length + 1)) = intL (A ++ b :: B):=intL_all A (b :: B)
theorem intL_drop0 (A : List Nat) : (intL A).drop A.length = []:=List.drop_eq_nil_of_le (by rw [intL_len]; exact Nat.le_refl _)
theorem intL_all3 (A : List Nat) (n : Nat) : (intL (A ++ [n])).take (A.length + 1) = intL (A ++ [n]):=intL_all A [n]
theorem intL_all4 (A B : List Nat) (n b : Nat) : (intL (A ++ n :: b :: B)).take (A.length + 1 + (B.length + 1)) = intL (A ++ n :: b :: B):=by
 have:=intL_all A (n :: b :: B)
 rw [show A.length + (n :: b :: B).length = A.length + 1 + (B.length + 1) by simp only [List.length_cons]; omega] at this
 exact this
theorem addNumber_split (A B : List Nat) (n : Nat) (hA : ∀ a,a ∈ A → a < n) (hB : ∀ b,B.head? = some b → n ≤ b) (hlen : A.length + B.length < 1000) :
  Does Tryz.prog 201 [] [.sl 1 (intL (A ++ B)),I n] (.sl 1 (intL (if B.head? = some n then A ++ B else A ++ n :: B))) []:=by
 refine Bg c_Z90 mixed (go1 trivial ?_)
 refine dw_for (c:=0) (l:=fun k=>[(0,.sl 1 (intL (A ++ B))),(1,I n),(5,I k)]) A.length (fun _=>True) 0 trivial (Wk.list [] rfl rfl ?_) (fun k hk _=>?_) (Nat.zero_le _)
 ·repeat' (first|(conv in hold _=>simp (disch:=omega) only [go_sem])|exact trivial|exact Sub.refl _|omega)
  exact rfl
 ·rcases at_or_end hk with ⟨a,ha,hlt⟩ | rfl
  ·have hget:=intL_get ha B
   have han:=hA a (List.mem_of_getElem? ha)
   refine go1 @hget ?_
   refine ⟨hlt,trivial,Wk.list [] rfl rfl ?_⟩
   exact Ag trivial
  ·cases B with
   | nil=>
    rw [if_neg (by simp)]
    repeat' (first|with_reducible refine acc_none ?_ | (conv in hold _=>simp (disch:=omega) only [go_sem,intL_drop0,intL_put0,List.length_nil])|refine Stp.go ?_|(with_reducible first|refine it_pos rfl ?_|refine it_neg (by decide) ?_|refine st_nil rfl ?_|refine s_op ?_ ?_|exact trivial)|((with_reducible first|refine dw_reg0 ?_|refine dw_regB ?_);(conv=>arg 3;whnf))|(refine Spl.go (fun hq he=>?_) (fun hq he=>?_)<;>first|(exfalso;clear hq;omega)|((try first|(conv=>arg 8;simp only [hq])|(conv=>arg 4;simp only [hq]));clear hq))|((with_reducible first|refine c_split (fun hq=>?_) (fun hq=>?_)|refine q_split (fun hq=>?_) (fun hq=>?_))<;>(try first|(conv=>arg 8;simp only [hq])|(conv=>arg 4;simp only [hq])))|exact Sub.refl _|omega)
    refine fin_wk (wk_frz 4 2000047 (by decide) (by decide) rfl ?_) ?_
    rotate_left
    (conv in hold _=>simp (disch:=omega) only [go_sem,intL_drop0,intL_put0,List.length_nil,intL_all3])
    ·refine fin_L [] ?_ ?_ rfl ?_
     repeat' (first|(conv in hold _=>simp (disch:=omega) only [go_sem,intL_drop0,intL_put0,List.length_nil])|exact trivial|exact Sub.refl _|omega)
    ·exact intL_pur _
   | cons b B=>
    have hb:=hB b rfl
    rw [List.length_cons] at hlen
    by_cases e : b = n
    ·rw [if_pos (by rw [e]; rfl)]
     repeat' (first|with_reducible refine acc_none ?_ | (conv in hold _=>simp (disch:=omega) only [go_sem,intL_drop0,intL_put0,List.length_nil])|refine Stp.go ?_|(with_reducible first|refine it_pos rfl ?_|refine it_neg (by decide) ?_|refine st_nil rfl ?_|refine s_op ?_ ?_|exact trivial)|((with_reducible first|refine dw_reg0 ?_|refine dw_regB ?_);(conv=>arg 3;whnf))|(refine Spl.go (fun hq he=>?_) (fun hq he=>?_)<;>first|(exfalso;clear hq;omega)|((try first|(conv=>arg 8;simp only [hq])|(conv=>arg 4;simp only [hq]));clear hq))|((with_reducible first|refine c_split (fun hq=>?_) (fun hq=>?_)|refine q_split (fun hq=>?_) (fun hq=>?_))<;>(try first|(conv=>arg 8;simp only [hq])|(conv=>arg 4;simp only [hq])))|(with_reducible refine fin_0 ?_ (by first|rfl|(conv=>lhs;simp only [go_sem,intL_drop0,intL_put0,List.length_nil])) ?_)|exact Sub.refl _|omega)
    ·rw [if_neg (by simpa using e)]
     refine go1F (cj2 @intL_all2 @intL_put) ?_
     refine fin_wk (wk_frz 4 2000047 (by decide) (by decide) rfl ?_) ?_
     rotate_left
     (conv in hold _=>simp (disch:=omega) only [go_sem,intL_all2,intL_put,intL_all4])
     ·refine fin_L [] ?_ ?_ rfl ?_
      repeat' (first|(conv in hold _=>simp (disch:=omega) only [go_sem,intL_all2,intL_put])|exact trivial|exact Sub.refl _|omega)
      rw [if_pos (by omega)]
      exact Sub.refl _
     ·exact intL_pur _
theorem range_cut (c : Nat) (h : c < 6) : List.range 6 = List.range c ++ c :: List.range' (c + 1) (5 - c):=by
 match c,h with
 | 0,_=>rfl
 | 1,_=>rfl
 | 2,_=>rfl
 | 3,_=>rfl
 | 4,_=>rfl
 | 5,_=>rfl
theorem addNumber_ok (u : Nat → Bool) (c : Nat) (h : c < 6) : Does Tryz.prog 201 [] [.sl 1 (colsL u 6),I c] (.sl 1 (colsL (fun i=>u i || i == c) 6)) []:=by
 have hm : ∀ v : Nat → Bool,marked v 6 = (List.range c).filter v ++ (c :: List.range' (c + 1) (5 - c)).filter v:=fun v=>by unfold marked; rw [range_cut c h,List.filter_append]
 have hA : ∀ a,a ∈ (List.range c).filter u → a < c:=fun a ha=>List.mem_range.1 (List.mem_filter.1 ha).1
 have hR : ∀ a,a ∈ List.range' (c + 1) (5 - c) → c < a:=fun a ha=>by have:=List.mem_range'_1.1 ha; omega
 have hB : ∀ b,((c :: List.range' (c + 1) (5 - c)).filter u).head? = some b → c ≤ b:=fun b hb=>by
  rcases List.mem_cons.1 (List.mem_filter.1 (List.mem_of_head? hb)).1 with rfl | hb
  ·exact Nat.le_refl _
  ·exact Nat.le_of_lt (hR b hb)
 have key:=addNumber_split _ _ c hA hB (by rw [← List.length_append,← hm]; have:=marked_len u 6; omega)
 have hres : (if ((c :: List.range' (c + 1) (5 - c)).filter u).head? = some c then (List.range c).filter u ++ (c :: List.range' (c + 1) (5 - c)).filter u else (List.range c).filter u ++ c :: (c :: List.range' (c + 1) (5 - c)).filter u) = marked (fun i=>u i || i == c) 6:=by
  by_cases hu : u c = true
  ·have hu' : (fun i=>u i || i == c) = u:=funext fun i=>by
    by_cases e : i = c
    ·subst e; simp [hu]
    ·simp [e]
   rw [hu',hm u,List.filter_cons,if_pos hu,List.head?_cons,if_pos rfl]
  ·have hne : ¬ ((c :: List.range' (c + 1) (5 - c)).filter u).head? = some c:=fun hb=>by
    have:=(List.mem_filter.1 (List.mem_of_head? hb)).2
    exact hu this
   rw [if_neg hne,hm,List.filter_cons,if_neg hu,List.filter_cons,if_pos (by simp)]
   have e1 : (List.range c).filter (fun i=>u i || i == c) = (List.range c).filter u:=List.filter_congr (fun i hi=>by
    have:=List.mem_range.1 hi
    have : ¬ i = c:=by omega
    simp [this])
   have e2 : (List.range' (c + 1) (5 - c)).filter (fun i=>u i || i == c) = (List.range' (c + 1) (5 - c)).filter u:=List.filter_congr (fun i hi=>by
    have:=hR i hi
    have : ¬ i = c:=by omega
    simp [this])
   rw [e1,e2]
 rw [hres,← hm u] at key
 exact key
def also (u : Nat → Bool) (e : E) (i : Nat) : Nat → Bool:=fun j=>u j || ((e.k == 1 && e.c == (j : Int)) || occL (e.ks.take i) j)
theorem also_next {u : Nat → Bool} {e : E} {i : Nat} {x : E} (h : e.ks[i]? = some x) : (fun j=>also u e i j || occ x j) = also u e (i + 1):=funext fun j=>by
 unfold also
 rw [occL_next h,Bool.or_assoc,Bool.or_assoc]
theorem also_end (u : Nat → Bool) (e : E) : also u e e.ks.length = fun j=>u j || occ e j:=funext fun j=>by
 unfold also
 rw [List.take_length,← occ_eq]
theorem also_col {u : Nat → Bool} {e : E} (h : e.k = 1) (hc : 0 ≤ e.c) : (fun j=>u j || j == e.c.toNat) = also u e 0:=funext fun j=>by
 unfold also
 have e1 : (e.c == (j : Int)) = (j == e.c.toNat):=by
  rw [Bool.eq_iff_iff,beq_iff_eq,beq_iff_eq]
  omega
 rw [List.take_zero,occL,e1,h]
 simp
theorem also_not {u : Nat → Bool} {e : E} (h : ¬ e.k = 1) : u = also u e 0:=funext fun j=>by
 unfold also
 rw [List.take_zero,occL]
 simp [h]
theorem addColumns_ok : ∀ (e : E) (d : Nat),eOk e 6 d → ∀ u : Nat → Bool,Does Tryz.prog 186 [] [.sl 1 (colsL u 6),eD e] (.sl 1 (colsL (fun j=>u j || occ e j) 6)) []:=by
 refine E.ind (fun e ih d h u=>?_)
 have hl:=((eOk_iff e _ d).1 h).2.2.2
 have hkid:=((eOk_iff e _ d).1 h).2.2.1
 have hn2:=kidsN_le e.k
 have hlen:=((eOk_iff e _ d).1 h).1
 by_cases hk : e.k = 1
 ·have hc : 0 ≤ e.c ∧ e.c ≤ 5:=by
   unfold leafOk at hl
   rw [if_pos hk] at hl
   omega
  have hnum:=addNumber_ok u e.c.toNat (by omega)
  rw [show ((e.c.toNat : Nat) : Int) = e.c by omega,also_col hk hc.1] at hnum
  refine Bg c_Z71 mixed (go1 (cj2 @intL_all2 @intL_put) ?_)
  refine Uc (cj2 @intL_all2 @intL_put) (hnum) (go1 (cj2 @intL_all2 @intL_put) ?_)
  refine dw_for (c:=1) (l:=fun i=>[(0,.sl 1 (colsL (also u e i) 6)),(3,.ref 1000000 0),(5,I i),(1000000,.obj [I e.k,I e.c,Bo e.v.b,I e.v.n,.sl 5 (e.ks.map eD)])]) e.ks.length (fun _=>True) 0 trivial (Wk.list [2000003] rfl rfl ?_) (fun i hi _=>?_) (Nat.zero_le _)
  ·repeat' (first|(conv in hold _=>simp (disch:=omega) only [go_sem,intL_all2,intL_put])|exact trivial|exact Sub.refl _|omega)
   exact rfl
  ·rcases at_or_end hi with ⟨x,hx,hlt⟩ | rfl
   ·have hox:=ih x (List.mem_of_getElem? hx) (d - 1) (hkid x (List.mem_of_getElem? hx)) (also u e i)
    refine go1 (cj3 @intL_all2 @intL_put @hx) ?_
    refine Uc (cj2 @intL_all2 @intL_put) (hox) (go1 (cj2 @intL_all2 @intL_put) ?_)
    refine ⟨hlt,trivial,Wk.list [1000000] rfl rfl ?_⟩
    repeat' (first|(conv in hold _=>simp (disch:=omega) only [go_sem,intL_all2,intL_put])|exact trivial|exact Sub.refl _|omega)
    rw [also_next hx]
   ·refine go1 (cj2 @intL_all2 @intL_put) ?_
    rw [also_end]; exact Sub.refl _
 ·refine Bg c_Z71 mixed (go1 (cj2 @intL_all2 @intL_put) ?_)
  refine dw_for (c:=1) (l:=fun i=>[(0,.sl 1 (colsL (also u e i) 6)),(3,.ref 1000000 0),(5,I i),(1000000,.obj [I e.k,I e.c,Bo e.v.b,I e.v.n,.sl 5 (e.ks.map eD)])]) e.ks.length (fun _=>True) 0 trivial (Wk.list [2000003] rfl rfl ?_) (fun i hi _=>?_) (Nat.zero_le _)
  ·repeat' (first|(conv in hold _=>simp (disch:=omega) only [go_sem,intL_all2,intL_put])|exact trivial|exact Sub.refl _|omega)
   rw [← also_not hk]
   exact ⟨rfl,rfl⟩
  ·rcases at_or_end hi with ⟨x,hx,hlt⟩ | rfl
   ·have hox:=ih x (List.mem_of_getElem? hx) (d - 1) (hkid x (List.mem_of_getElem? hx)) (also u e i)
    refine go1 (cj3 @intL_all2 @intL_put @hx) ?_
    refine Uc (cj2 @intL_all2 @intL_put) (hox) (go1 (cj2 @intL_all2 @intL_put) ?_)
    refine ⟨hlt,trivial,Wk.list [1000000] rfl rfl ?_⟩
    repeat' (first|(conv in hold _=>simp (disch:=omega) only [go_sem,intL_all2,intL_put])|exact trivial|exact Sub.refl _|omega)
    rw [also_next hx]
   ·refine go1 (cj2 @intL_all2 @intL_put) ?_
    rw [also_end]; exact Sub.refl _
end Go.Proofs.YtgpdmgaemhelgaaGreat
