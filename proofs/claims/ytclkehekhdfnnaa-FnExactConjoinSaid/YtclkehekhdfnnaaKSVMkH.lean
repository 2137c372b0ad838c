/-
  Marked expressions are found as they were marked. No condition.
-/
import Derived.Test.YtclkehekhdfnnaaKSDca
import Derived.Test.YtclkehekhdfnnaaKSDcd
import Derived.Test.YtclkehekhdfnnaaKSVMkE
set_option maxHeartbeats 4000000
set_option maxRecDepth 100000
set_option linter.unusedVariables false
set_option linter.unusedSimpArgs false
namespace Go.Proofs.Ytclkehekhdfnnaa
open Go.RowKit
theorem heldExprS_okS (l : List E) (k : Int) (hk : 0 ≤ k ∧ k + 4 * eszL l ≤ 1099511627776) (hl : eszL l ≤ 1048576)
  (ih : ∀ x,x ∈ l → ∀ k : Int,0 ≤ k ∧ k + 4 * eszL x.ks ≤ 1099511627776 → Does Try.prog 26 [] [.sl 5 ((mkEL x.ks k).map eD),I k] (I (k + 4 * eszL x.ks)) []) :
  Does Try.prog 26 [] [.sl 5 ((mkEL l k).map eD),I k] (I (k + 4 * eszL l)) []:=by
 have hmk:=mkEL_len l k
 have hlen:=eszL_len l
 refine does0 c_Z11 mixed (Nat.le_of_ble_eq_true rfl) ?_
 conv=>arg 3; whnf
 repeat' (first|with_reducible refine acc_none ?_ | (conv in hold _=>simp (disch:=omega) only [go_sem,beq_self_eq_true,bne_self_eq_false,hmk])|refine Stp.go ?_|(with_reducible first|refine it_pos rfl ?_|refine it_neg (by decide) ?_|refine st_nil rfl ?_|refine s_op ?_ ?_|exact trivial)|((with_reducible first|refine dw_reg0 ?_|refine dw_regB ?_);(conv=>arg 3;whnf))|(refine Spl.go (fun hq he=>?_) (fun hq he=>?_)<;>first|(exfalso;clear hq;omega)|((try first|(conv=>arg 8;simp only [hq])|(conv=>arg 4;simp only [hq]));clear hq))|((with_reducible first|refine c_split (fun hq=>?_) (fun hq=>?_)|refine q_split (fun hq=>?_) (fun hq=>?_))<;>(try first|(conv=>arg 8;simp only [hq])|(conv=>arg 4;simp only [hq])))|(with_reducible refine fin_0 ?_ (by first|rfl|(conv=>lhs;simp only [go_sem,beq_self_eq_true,bne_self_eq_false,hmk])) ?_)|exact Sub.refl _|omega)
 refine dw_for (c:=0) (l:=fun i=>[(0,.sl 5 ((mkEL l k).map eD)),(1,I (k + 4 * eszL (l.take i))),(5,I i)]) l.length (fun _=>True) 0 trivial (Wk.list [] rfl rfl ?_) (fun i hi _=>?_) (Nat.zero_le _)
 ·repeat' (first|(conv in hold _=>simp (disch:=omega) only [go_sem,beq_self_eq_true,bne_self_eq_false])|exact trivial|exact Sub.refl _|omega)
  rw [eszL]
  exact ⟨congrArg (fun n=>D.v (Value.int IntKind.i64 n)) (by omega),rfl⟩
 ·rcases at_or_end hi with ⟨x,hx,hlt⟩ | rfl
  ·have hnx:=eszL_next hx
   have hxe:=esz_eq x
   have hrest:=eszL_rest l (i + 1) hlt
   obtain ⟨q,hq⟩ : ∃ q : Int,q = k + 4 * ↑(eszL (l.take i)):=⟨_,rfl⟩
   have hmx:=mkEL_at k hx
   rw [← hq,mkE_eq] at hmx
   have hix:=ih x (List.mem_of_getElem? hx) (q + 1 + 1 + 1 + 1) (by omega)
   rw [← hq]
   have hgi : ((mkEL l k).map eD)[i]? = some (.agg [I q,I (q + 1),Bo ((q + 1 + 1).tmod 3 == 0),I (q + 1 + 1 + 1),.sl 5 ((mkEL x.ks (q + 1 + 1 + 1 + 1)).map eD)]):=by
    rw [List.getElem?_map,hmx,Option.map_some,eD_eq]; rfl
   repeat' (first|with_reducible refine acc_none ?_ | (conv in hold _=>simp (disch:=omega) only [go_sem,beq_self_eq_true,bne_self_eq_false,hmk,hgi])|refine Stp.go ?_|(with_reducible first|refine it_pos rfl ?_|refine it_neg (by decide) ?_|refine st_nil rfl ?_|refine s_op ?_ ?_|exact trivial)|((with_reducible first|refine dw_reg0 ?_|refine dw_regB ?_);(conv=>arg 3;whnf))|(refine Spl.go (fun hq he=>?_) (fun hq he=>?_)<;>first|(exfalso;clear hq;omega)|((try first|(conv=>arg 8;simp only [hq])|(conv=>arg 4;simp only [hq]));clear hq))|((with_reducible first|refine c_split (fun hq=>?_) (fun hq=>?_)|refine q_split (fun hq=>?_) (fun hq=>?_))<;>(try first|(conv=>arg 8;simp only [hq])|(conv=>arg 4;simp only [hq])))|(with_reducible refine fin_0 ?_ (by first|rfl|(conv=>lhs;simp only [go_sem,beq_self_eq_true,bne_self_eq_false,hmk,hgi])) ?_)|exact Sub.refl _|omega)
   refine c_doesE (hix) ?_ ?_ ?_
   ·((try (conv=>rhs;simp (disch:=omega) only [go_sem,beq_self_eq_true,bne_self_eq_false])); try rfl)
   ·first|rfl|(conv=>lhs;simp only [go_sem,beq_self_eq_true,bne_self_eq_false])
   repeat' (first|with_reducible refine acc_none ?_ | (conv in hold _=>simp (disch:=omega) only [go_sem,beq_self_eq_true,bne_self_eq_false])|refine Stp.go ?_|(with_reducible first|refine it_pos rfl ?_|refine it_neg (by decide) ?_|refine st_nil rfl ?_|refine s_op ?_ ?_|exact trivial)|((with_reducible first|refine dw_reg0 ?_|refine dw_regB ?_);(conv=>arg 3;whnf))|(refine Spl.go (fun hq he=>?_) (fun hq he=>?_)<;>first|(exfalso;clear hq;omega)|((try first|(conv=>arg 8;simp only [hq])|(conv=>arg 4;simp only [hq]));clear hq))|((with_reducible first|refine c_split (fun hq=>?_) (fun hq=>?_)|refine q_split (fun hq=>?_) (fun hq=>?_))<;>(try first|(conv=>arg 8;simp only [hq])|(conv=>arg 4;simp only [hq])))|(with_reducible refine fin_0 ?_ (by first|rfl|(conv=>lhs;simp only [go_sem,beq_self_eq_true,bne_self_eq_false])) ?_)|exact Sub.refl _|omega)
   refine ⟨hlt,trivial,Wk.list [] rfl rfl ?_⟩
   repeat' (first|(conv in hold _=>simp (disch:=omega) only [go_sem,beq_self_eq_true,bne_self_eq_false])|exact trivial|exact Sub.refl _|omega)
   exact congrArg (fun n=>D.v (Value.int IntKind.i64 n)) (by omega)
  ·repeat' (first|with_reducible refine acc_none ?_ | (conv in hold _=>simp (disch:=omega) only [go_sem,beq_self_eq_true,bne_self_eq_false,hmk,List.take_length])|refine Stp.go ?_|(with_reducible first|refine it_pos rfl ?_|refine it_neg (by decide) ?_|refine st_nil rfl ?_|refine s_op ?_ ?_|exact trivial)|((with_reducible first|refine dw_reg0 ?_|refine dw_regB ?_);(conv=>arg 3;whnf))|(refine Spl.go (fun hq he=>?_) (fun hq he=>?_)<;>first|(exfalso;clear hq;omega)|((try first|(conv=>arg 8;simp only [hq])|(conv=>arg 4;simp only [hq]));clear hq))|((with_reducible first|refine c_split (fun hq=>?_) (fun hq=>?_)|refine q_split (fun hq=>?_) (fun hq=>?_))<;>(try first|(conv=>arg 8;simp only [hq])|(conv=>arg 4;simp only [hq])))|(with_reducible refine fin_0 ?_ (by first|rfl|(conv=>lhs;simp only [go_sem,beq_self_eq_true,bne_self_eq_false,hmk,List.take_length])) ?_)|exact Sub.refl _|omega)
theorem heldExprS_ok : ∀ e : E,∀ k : Int,0 ≤ k ∧ k + 4 * eszL e.ks ≤ 1099511627776 → eszL e.ks ≤ 1048576 → Does Try.prog 26 [] [.sl 5 ((mkEL e.ks k).map eD),I k] (I (k + 4 * eszL e.ks)) []:=by
 refine E.ind (fun e ih k hk hl=>?_)
 refine heldExprS_okS e.ks k hk hl (fun x hx k hk=>ih x hx k hk ?_)
 have h1:=eszL_mem hx
 have h2:=esz_eq x
 omega
theorem heldExpr_ok (e : E) (k : Int) (hk : 0 ≤ k ∧ k + 4 * eszL e.ks ≤ 1099511627776) (hl : eszL e.ks ≤ 1048576) (a b : Int) (v : V) : Does Try.prog 23 [] [.agg [I a,I b,Bo v.b,I v.n,.sl 5 ((mkEL e.ks k).map eD)],I k] (I (k + 4 * eszL e.ks)) []:=by
 have h:=heldExprS_ok e k hk hl
 refine does0 c_Z17 mixed (Nat.le_of_ble_eq_true rfl) ?_
 conv=>arg 3; whnf
 repeat' (first|with_reducible refine acc_none ?_ | (conv in hold _=>simp (disch:=omega) only [go_sem,beq_self_eq_true,bne_self_eq_false])|refine Stp.go ?_|(with_reducible first|refine it_pos rfl ?_|refine it_neg (by decide) ?_|refine st_nil rfl ?_|refine s_op ?_ ?_|exact trivial)|((with_reducible first|refine dw_reg0 ?_|refine dw_regB ?_);(conv=>arg 3;whnf))|(refine Spl.go (fun hq he=>?_) (fun hq he=>?_)<;>first|(exfalso;clear hq;omega)|((try first|(conv=>arg 8;simp only [hq])|(conv=>arg 4;simp only [hq]));clear hq))|((with_reducible first|refine c_split (fun hq=>?_) (fun hq=>?_)|refine q_split (fun hq=>?_) (fun hq=>?_))<;>(try first|(conv=>arg 8;simp only [hq])|(conv=>arg 4;simp only [hq])))|(with_reducible refine fin_0 ?_ (by first|rfl|(conv=>lhs;simp only [go_sem,beq_self_eq_true,bne_self_eq_false])) ?_)|exact Sub.refl _|omega)
 refine c_doesE (h) ?_ ?_ ?_
 ·((try (conv=>rhs;simp (disch:=omega) only [go_sem,beq_self_eq_true,bne_self_eq_false])); try rfl)
 ·first|rfl|(conv=>lhs;simp only [go_sem,beq_self_eq_true,bne_self_eq_false])
 repeat' (first|with_reducible refine acc_none ?_ | (conv in hold _=>simp (disch:=omega) only [go_sem,beq_self_eq_true,bne_self_eq_false])|refine Stp.go ?_|(with_reducible first|refine it_pos rfl ?_|refine it_neg (by decide) ?_|refine st_nil rfl ?_|refine s_op ?_ ?_|exact trivial)|((with_reducible first|refine dw_reg0 ?_|refine dw_regB ?_);(conv=>arg 3;whnf))|(refine Spl.go (fun hq he=>?_) (fun hq he=>?_)<;>first|(exfalso;clear hq;omega)|((try first|(conv=>arg 8;simp only [hq])|(conv=>arg 4;simp only [hq]));clear hq))|((with_reducible first|refine c_split (fun hq=>?_) (fun hq=>?_)|refine q_split (fun hq=>?_) (fun hq=>?_))<;>(try first|(conv=>arg 8;simp only [hq])|(conv=>arg 4;simp only [hq])))|(with_reducible refine fin_0 ?_ (by first|rfl|(conv=>lhs;simp only [go_sem,beq_self_eq_true,bne_self_eq_false])) ?_)|exact Sub.refl _|omega)
end Go.Proofs.Ytclkehekhdfnnaa
