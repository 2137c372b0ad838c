/-
  ColumnsOf of the program; how many columns there are. No condition.
-/
import Derived.Test.YtgpdmgaemhelgaaGreatKSDca
import Derived.Test.YtgpdmgaemhelgaaGreatKSDcb
import Derived.Test.YtgpdmgaemhelgaaGreatJSVCols
import Derived.Test.YtgpdmgaemhelgaaGreatKSDcc
import Derived.Test.YtgpdmgaemhelgaaGreatKSVDrawE
import Derived.Test.YtgpdmgaemhelgaaGreatJSVEvI
import Derived.Test.YtgpdmgaemhelgaaGreatJSVCpE
import Derived.Test.YtgpdmgaemhelgaaGreatJSVCall
set_option maxHeartbeats 4000000
set_option maxRecDepth 100000
namespace Go.Proofs.YtgpdmgaemhelgaaGreat
open Go.RowKit
def marked (u : Nat → Bool) (n : Nat) : List Nat:=(List.range n).filter u
def colsL (u : Nat → Bool) (n : Nat) : List D:=(marked u n).map fun j : Nat=>I (j : Int)
theorem marked_t {u : Nat → Bool} {n : Nat} (h : u n = true) : marked u (n + 1) = marked u n ++ [n]:=by
 unfold marked
 rw [List.range_succ,List.filter_append,List.filter_cons,if_pos h]
 rfl
theorem marked_f {u : Nat → Bool} {n : Nat} (h : u n = false) : marked u (n + 1) = marked u n:=by
 unfold marked
 rw [List.range_succ,List.filter_append,List.filter_cons,if_neg (by rw [h]; decide)]
 simp
theorem colsL_t {u : Nat → Bool} {n : Nat} (h : u n = true) : colsL u (n + 1) = colsL u n ++ [I n]:=by unfold colsL; rw [marked_t h,List.map_append]; rfl
theorem colsL_f {u : Nat → Bool} {n : Nat} (h : u n = false) : colsL u (n + 1) = colsL u n:=by unfold colsL; rw [marked_f h]
theorem marked_len (u : Nat → Bool) (n : Nat) : (marked u n).length ≤ n:=by
 unfold marked
 exact Nat.le_trans (List.length_filter_le _ _) (by rw [List.length_range]; exact Nat.le_refl _)
theorem colsL_len (u : Nat → Bool) (n : Nat) : (colsL u n).length ≤ n:=by unfold colsL; rw [List.length_map]; exact marked_len u n
theorem nats_pur : ∀ l : List Nat,D.purL (l.map fun j : Nat=>I (j : Int)) = true
 | []=>rfl
 | j :: l=>by rw [List.map_cons,D.purL,nats_pur l]; rfl
theorem colsL_pur (u : Nat → Bool) (n : Nat) : D.purL (colsL u n) = true:=nats_pur _
theorem colsL_ren (L : List Nat) (u : Nat → Bool) (n : Nat) : D.renL L (colsL u n) = colsL u n:=ren_pure.renL_pure L _ (colsL_pur u n)
attribute [go_sem] colsL_ren colsL_pur
theorem ColumnsOf_impl (e : E) (h : eOk e 6 8) : Does Tryz.prog 162 [] [eD e] (.sl 1 (colsL (occ e) 6)) []:=by
 have hve:=implValidExpr_ok e 6
 rw [decide_eq_true ⟨by decide,h⟩] at hve
 have huc:=usedColumns_ok e 8 h
 refine does0 c_Z89 mixed (Nat.le_of_ble_eq_true rfl) ?_
 conv=>arg 3; whnf
 repeat' (first|with_reducible refine acc_none ?_ | (conv in hold _=>simp (disch:=omega) only [go_sem])|refine Stp.go ?_|(with_reducible first|refine it_pos rfl ?_|refine it_neg (by decide) ?_|refine st_nil rfl ?_|refine s_op ?_ ?_|exact trivial)|((with_reducible first|refine dw_reg0 ?_|refine dw_regB ?_);(conv=>arg 3;whnf))|(refine Spl.go (fun hq he=>?_) (fun hq he=>?_)<;>first|(exfalso;clear hq;omega)|((try first|(conv=>arg 8;simp only [hq])|(conv=>arg 4;simp only [hq]));clear hq))|((with_reducible first|refine c_split (fun hq=>?_) (fun hq=>?_)|refine q_split (fun hq=>?_) (fun hq=>?_))<;>(try first|(conv=>arg 8;simp only [hq])|(conv=>arg 4;simp only [hq])))|(with_reducible refine fin_0 ?_ (by first|rfl|(conv=>lhs;simp only [go_sem])) ?_)|exact Sub.refl _|omega)
 refine c_doesE (hve) ?_ ?_ ?_
 ·((try (conv=>rhs;simp (disch:=omega) only [go_sem])); try rfl)
 ·first|rfl|(conv=>lhs;simp only [go_sem])
 repeat' (first|with_reducible refine acc_none ?_ | (conv in hold _=>simp (disch:=omega) only [go_sem])|refine Stp.go ?_|(with_reducible first|refine it_pos rfl ?_|refine it_neg (by decide) ?_|refine st_nil rfl ?_|refine s_op ?_ ?_|exact trivial)|((with_reducible first|refine dw_reg0 ?_|refine dw_regB ?_);(conv=>arg 3;whnf))|(refine Spl.go (fun hq he=>?_) (fun hq he=>?_)<;>first|(exfalso;clear hq;omega)|((try first|(conv=>arg 8;simp only [hq])|(conv=>arg 4;simp only [hq]));clear hq))|((with_reducible first|refine c_split (fun hq=>?_) (fun hq=>?_)|refine q_split (fun hq=>?_) (fun hq=>?_))<;>(try first|(conv=>arg 8;simp only [hq])|(conv=>arg 4;simp only [hq])))|(with_reducible refine fin_0 ?_ (by first|rfl|(conv=>lhs;simp only [go_sem])) ?_)|exact Sub.refl _|omega)
 refine c_doesE (huc) ?_ ?_ ?_
 ·((try (conv=>rhs;simp (disch:=omega) only [go_sem])); try rfl)
 ·first|rfl|(conv=>lhs;simp only [go_sem])
 repeat' (first|with_reducible refine acc_none ?_ | (conv in hold _=>simp (disch:=omega) only [go_sem])|refine Stp.go ?_|(with_reducible first|refine it_pos rfl ?_|refine it_neg (by decide) ?_|refine st_nil rfl ?_|refine s_op ?_ ?_|exact trivial)|((with_reducible first|refine dw_reg0 ?_|refine dw_regB ?_);(conv=>arg 3;whnf))|(refine Spl.go (fun hq he=>?_) (fun hq he=>?_)<;>first|(exfalso;clear hq;omega)|((try first|(conv=>arg 8;simp only [hq])|(conv=>arg 4;simp only [hq]));clear hq))|((with_reducible first|refine c_split (fun hq=>?_) (fun hq=>?_)|refine q_split (fun hq=>?_) (fun hq=>?_))<;>(try first|(conv=>arg 8;simp only [hq])|(conv=>arg 4;simp only [hq])))|(with_reducible refine fin_0 ?_ (by first|rfl|(conv=>lhs;simp only [go_sem])) ?_)|exact Sub.refl _|omega)
 refine dw_for (c:=1) (l:=fun i=>[(3,.own 1000000 1 (colsL (occ e) i).length),(10,.agg (useL (occ e))),(11,I i),(1000000,.row 1 (colsL (occ e) i))]) 6 (fun _=>True) 0 trivial ((wk_row 3 2000019 1 (by decide) (by decide) rfl rfl).trans (Wk.list [2000019] rfl rfl ?_)) (fun i hi _=>?_) (Nat.zero_le _)
 ·repeat' (first|(conv in hold _=>simp (disch:=omega) only [go_sem])|exact trivial|exact Sub.refl _|omega)
  exact ⟨rfl,rfl,rfl⟩
 ·have hlen:=colsL_len (occ e) i
  by_cases h6 : i < 6
  ·repeat' (first|with_reducible refine acc_none ?_ | (conv in hold _=>simp (disch:=omega) only [go_sem])|refine Stp.go ?_|(with_reducible first|refine it_pos rfl ?_|refine it_neg (by decide) ?_|refine st_nil rfl ?_|refine s_op ?_ ?_|exact trivial)|((with_reducible first|refine dw_reg0 ?_|refine dw_regB ?_);(conv=>arg 3;whnf))|(refine Spl.go (fun hq he=>?_) (fun hq he=>?_)<;>first|(exfalso;clear hq;omega)|((try first|(conv=>arg 8;simp only [hq])|(conv=>arg 4;simp only [hq]));clear hq))|((with_reducible first|refine c_split (fun hq=>?_) (fun hq=>?_)|refine q_split (fun hq=>?_) (fun hq=>?_))<;>(try first|(conv=>arg 8;simp only [hq])|(conv=>arg 4;simp only [hq])))|(with_reducible refine fin_0 ?_ (by first|rfl|(conv=>lhs;simp only [go_sem])) ?_)|exact Sub.refl _|omega)
   ·refine ⟨h6,trivial,Wk.list [2000019] rfl rfl ?_⟩
    repeat' (first|(conv in hold _=>simp (disch:=omega) only [go_sem,List.take_length])|exact trivial|exact Sub.refl _|omega)
    rw [colsL_t hq,List.length_append]
    exact ⟨rfl,rfl⟩
   ·refine ⟨h6,trivial,Wk.list [1000000] rfl rfl ?_⟩
    repeat' (first|(conv in hold _=>simp (disch:=omega) only [go_sem])|exact trivial|exact Sub.refl _|omega)
    rw [colsL_f hq]
    exact ⟨rfl,rfl⟩
  ·obtain rfl : i = 6:=by omega
   repeat' (first|with_reducible refine acc_none ?_ | (conv in hold _=>simp (disch:=omega) only [go_sem])|refine Stp.go ?_|(with_reducible first|refine it_pos rfl ?_|refine it_neg (by decide) ?_|refine st_nil rfl ?_|refine s_op ?_ ?_|exact trivial)|((with_reducible first|refine dw_reg0 ?_|refine dw_regB ?_);(conv=>arg 3;whnf))|(refine Spl.go (fun hq he=>?_) (fun hq he=>?_)<;>first|(exfalso;clear hq;omega)|((try first|(conv=>arg 8;simp only [hq])|(conv=>arg 4;simp only [hq]));clear hq))|((with_reducible first|refine c_split (fun hq=>?_) (fun hq=>?_)|refine q_split (fun hq=>?_) (fun hq=>?_))<;>(try first|(conv=>arg 8;simp only [hq])|(conv=>arg 4;simp only [hq])))|exact Sub.refl _|omega)
   refine fin_wk (wk_frz 2 1000000 (by decide) (by decide) rfl ?_) ?_
   rotate_left
   (conv in hold _=>simp (disch:=omega) only [go_sem,List.take_length])
   ·refine fin_L [] ?_ ?_ rfl ?_
    repeat' (first|(conv in hold _=>simp (disch:=omega) only [go_sem])|exact trivial|exact Sub.refl _|omega)
   ·exact colsL_pur _ _
end Go.Proofs.YtgpdmgaemhelgaaGreat
set_option maxHeartbeats 4000000
set_option maxRecDepth 100000
namespace Go.Proofs.YtgpdmgaemhelgaaGreat
open Go.RowKit
theorem occL_mem {x : E} {l : List E} {i : Nat} (h : x ∈ l) (ho : occ x i = true) : occL l i = true:=by
 induction l with
 | nil=>cases h
 | cons y l ih=>
  rw [occL,Bool.or_eq_true]
  rcases List.mem_cons.1 h with rfl | h
  ·exact Or.inl ho
  ·exact Or.inr (ih h)
theorem occ_kid {x e : E} {i : Nat} (h : x ∈ e.ks) (ho : occ x i = true) : occ e i = true:=by
 rw [occ_eq,occL_mem h ho,Bool.or_true]
end Go.Proofs.YtgpdmgaemhelgaaGreat
set_option maxHeartbeats 4000000
set_option maxRecDepth 100000
set_option linter.unusedVariables false
set_option linter.unusedSimpArgs false
namespace Go.Proofs.YtgpdmgaemhelgaaGreat
open Go.RowKit
theorem copyPlan_ok : ∀ p : Pl,psz p ≤ 900000 → Does Tryz.prog 64 [] [pD p] (pD p) []:=by
 refine Pl.indA (fun p ih h=>?_)
 rw [psz_eq] at h
 have hle:=eszL_len p.es
 have hlk:=pszL_len p.ks
 have hc:=take_all I p.cs
 refine Bg c_Z127 mixed (go1 trivial ?_)
 refine dw_for (c:=5) (l:=fun i=>[(1,.ref 1000000 0),(2,.ref 1000001 0),(3,.ref 1000002 0),(4,I i),(1000000,.obj [I p.k,I p.t,.sl 5 (p.es.map eD),.sl 1 (p.cs.map I),.sl 5 (p.ks.map pD)]),(1000001,.obj [I 0,I 0,.nul,.nul,.nul]),(1000002,.obj [I p.k,I p.t,.own 1000004 5 i,.own 1000003 1 p.cs.length,.nul]),(1000003,.row 1 (p.cs.map I)),(1000004,.row 5 ((p.es.take i).map eD))]) p.es.length (fun _=>True) 0 trivial ((wk_rowO 2000003 2000099 5 2 (by decide) (by decide) (by decide) rfl rfl rfl).trans (Wk.list [2000001,2000002,2000003,2000013,2000099] rfl rfl ?_)) (fun i hi _=>?_) (Nat.zero_le _)
 ·repeat' (first|(conv in hold _=>simp (disch:=omega) only [go_sem,hc])|exact trivial|exact Sub.refl _|omega)
  exact rfl
 ·have hlt:=take_len (vs:=p.es) (i:=i) (by omega)
  have hmt:=take_map eD (vs:=p.es) (i:=i) (by omega)
  rcases at_or_end hi with ⟨x,hx,hlt1⟩ | rfl
  ·have hix:=copyExpr_ok x (by have:=eszL_mem (List.mem_of_getElem? hx); omega)
   have hnx:=take_next hx
   refine go1 (cj2 @hx @hc) ?_
   refine Uc @hc (hix) (go1 @hc ?_)
   refine ⟨hlt1,trivial,Wk.list [1000000,1000001,1000002,1000003,2000031] rfl rfl ?_⟩
   repeat' (first|(conv in hold _=>simp (disch:=omega) only [go_sem,hc])|exact trivial|exact Sub.refl _|omega)
   rw [hmt,hnx,List.map_append,List.map_cons,List.map_nil,eD_eq x]
  ·have e1 : p.es.take p.es.length = p.es:=List.take_length
   have e2 : (p.es.map eD).take p.es.length = p.es.map eD:=take_all eD p.es
   refine go1 (cj2 @e1 @hc) ?_
   refine dw_for (c:=6) (l:=fun i=>[(1,.ref 1000000 0),(2,.ref 1000001 0),(3,.ref 1000002 0),(5,I i),(1000000,.obj [I p.k,I p.t,.sl 5 (p.es.map eD),.sl 1 (p.cs.map I),.sl 5 (p.ks.map pD)]),(1000001,.obj [I 0,I 0,.nul,.nul,.nul]),(1000002,.obj [I p.k,I p.t,.own 1000004 5 p.es.length,.own 1000003 1 p.cs.length,.own 1000005 5 i]),(1000003,.row 1 (p.cs.map I)),(1000004,.row 5 (p.es.map eD)),(1000005,.row 5 ((p.ks.take i).map pD))]) p.ks.length (fun _=>True) 0 trivial ((wk_rowO 1000002 2000099 5 4 (by decide) (by decide) (by decide) rfl rfl rfl).trans (Wk.list [1000000,1000001,1000002,1000003,1000004,2000099] rfl rfl ?_)) (fun i hi _=>?_) (Nat.zero_le _)
   ·repeat' (first|(conv in hold _=>simp (disch:=omega) only [go_sem,hc,e1,e2])|exact trivial|exact Sub.refl _|omega)
    exact rfl
   ·have hlt:=take_len (vs:=p.ks) (i:=i) (by omega)
    have hmt:=take_map pD (vs:=p.ks) (i:=i) (by omega)
    rcases at_or_end hi with ⟨x,hx,hlt1⟩ | rfl
    ·have hix:=ih x (List.mem_of_getElem? hx) (by have:=pszL_mem (List.mem_of_getElem? hx); omega)
     have hnx:=take_next hx
     refine go1 (cj3 @hx @hc @e2) ?_
     refine Uc (cj2 @hc @e2) (hix) (go1 (cj2 @hc @e2) ?_)
     refine ⟨hlt1,trivial,Wk.list [1000000,1000001,1000002,1000003,1000004,2000049] rfl rfl ?_⟩
     repeat' (first|(conv in hold _=>simp (disch:=omega) only [go_sem,hc,e2])|exact trivial|exact Sub.refl _|omega)
     rw [hmt,hnx,List.map_append,List.map_cons,List.map_nil,pD_eq x]
     rfl
    ·have e3 : p.ks.take p.ks.length = p.ks:=List.take_length
     have e4 : (p.ks.map pD).take p.ks.length = p.ks.map pD:=take_all pD p.ks
     refine go1F (cj3 @e3 @hc @e2) ?_
     refine fin_wk (wk_frzO 1000001 1000003 (by decide) (by decide) rfl (by decide) rfl ?_) ?_
     rotate_left
     (conv in hold _=>simp (disch:=omega) only [go_sem,e2,hc,e4])
     refine fin_wk (wk_frzO 1000001 1000004 (by decide) (by decide) rfl (by decide) rfl ?_) ?_
     rotate_left
     (conv in hold _=>simp (disch:=omega) only [go_sem,e2,hc,e4])
     refine fin_wk (wk_frzO 1000001 1000005 (by decide) (by decide) rfl (by decide) rfl ?_) ?_
     rotate_left
     (conv in hold _=>simp (disch:=omega) only [go_sem,e2,hc,e4])
     all_goals first
      | exact ints_pur _
      | exact exprs_pur _
      | exact plans_pur _
      | skip
     refine fin_L [] ?_ ?_ rfl ?_
     repeat' (first|(conv in hold _=>simp (disch:=omega) only [go_sem])|exact trivial|exact Sub.refl _|omega)
theorem plS {k t : Int} {es : List E} {cs : List Int} {ks : List Pl} {des dcs dks : D} (h1 : Sub des (.sl 5 (es.map eD))) (h2 : Sub dcs (.sl 1 (cs.map I))) (h3 : Sub dks (.sl 5 (ks.map pD))) : Sub (.agg [I k,I t,des,dcs,dks]) (pD (.mk k t es cs ks)):=by
 rw [pD_eq]
 exact Sub.agg ⟨Sub.refl _,Sub.refl _,h1,h2,h3,trivial⟩
theorem filterOf_ok (e : E) (x : Pl) : Does Tryz.prog 154 [] [eD e,pD x] (pD (.mk 2 0 [e] [] [x])) []:=by
 refine Bg c_Z128 mixed (go1 trivial ?_)
 have h : Sub (.agg [I 2,I 0,.sl 5 [eD e],.nul,.sl 5 [pD x]]) (pD (.mk 2 0 [e] [] [x])):=plS (Sub.refl _) (Sub.nul 1) (Sub.refl _)
 simp only [go_sem] at h
 exact h
end Go.Proofs.YtgpdmgaemhelgaaGreat
