/-
  Marks of an expression; ColumnsOf with an answer of one's own. No condition.
-/
import Derived.Test.YtclkehekhdfnnaaKSDca
import Derived.Test.YtclkehekhdfnnaaKSDcd
import Derived.Test.YtclkehekhdfnnaaKSVMkE
import Derived.Test.YtclkehekhdfnnaaKSVMix
import Derived.Test.YtclkehekhdfnnaaKSVLend
import Derived.Test.YtclkehekhdfnnaaJSVInt
import Derived.Test.YtclkehekhdfnnaaJSVSzW
import Derived.Test.YtclkehekhdfnnaaJSVBit
import Derived.Test.YtclkehekhdfnnaaJSVLib
import Derived.Test.YtclkehekhdfnnaaJSVWLaws
import Derived.Test.YtclkehekhdfnnaaJSVCols
import Derived.Test.YtclkehekhdfnnaaSVGo
set_option maxHeartbeats 4000000
set_option maxRecDepth 100000
set_option linter.unusedVariables false
set_option linter.unusedSimpArgs false
namespace Go.Proofs.Ytclkehekhdfnnaa
open Go.RowKit
theorem markExpr_rc (e : E) (k : Int) (hk : 0 ≤ k ∧ k + 4 * eszL e.ks ≤ 1099511627776) (hl : eszL e.ks ≤ 1048576) : RCalls Try.prog 14 [⟨0,5,e.ks.map eD⟩] [eK 0 e,I k] [⟨0,5,(mkEL e.ks k).map eD⟩] 1 (I (k + 4 * eszL e.ks)):=by
 by_cases h0 : e.ks = []
 ·have hn:=markExprS_nil k
  have h : Does Try.prog 14 [] [eD e,I k] (I k) []:=by
   rw [eD_eq,h0]
   refine does0 c_Z18 mixed (Nat.le_of_ble_eq_true rfl) ?_
   conv=>arg 3; whnf
   repeat' (first|with_reducible refine acc_none ?_ | (conv in hold _=>simp (disch:=omega) only [go_sem])|refine Stp.go ?_|(with_reducible first|refine it_pos rfl ?_|refine it_neg (by decide) ?_|refine st_nil rfl ?_|refine s_op ?_ ?_|exact trivial)|((with_reducible first|refine dw_reg0 ?_|refine dw_regB ?_);(conv=>arg 3;whnf))|(refine Spl.go (fun hq he=>?_) (fun hq he=>?_)<;>first|(exfalso;clear hq;omega)|((try first|(conv=>arg 8;simp only [hq])|(conv=>arg 4;simp only [hq]));clear hq))|((with_reducible first|refine c_split (fun hq=>?_) (fun hq=>?_)|refine q_split (fun hq=>?_) (fun hq=>?_))<;>(try first|(conv=>arg 8;simp only [hq])|(conv=>arg 4;simp only [hq])))|(with_reducible refine fin_0 ?_ (by first|rfl|(conv=>lhs;simp only [go_sem])) ?_)|exact Sub.refl _|omega)
   refine c_doesE (hn) ?_ ?_ ?_
   ·((try (conv=>rhs;simp (disch:=omega) only [go_sem])); try rfl)
   ·first|rfl|(conv=>lhs;simp only [go_sem])
   repeat' (first|with_reducible refine acc_none ?_ | (conv in hold _=>simp (disch:=omega) only [go_sem])|refine Stp.go ?_|(with_reducible first|refine it_pos rfl ?_|refine it_neg (by decide) ?_|refine st_nil rfl ?_|refine s_op ?_ ?_|exact trivial)|((with_reducible first|refine dw_reg0 ?_|refine dw_regB ?_);(conv=>arg 3;whnf))|(refine Spl.go (fun hq he=>?_) (fun hq he=>?_)<;>first|(exfalso;clear hq;omega)|((try first|(conv=>arg 8;simp only [hq])|(conv=>arg 4;simp only [hq]));clear hq))|((with_reducible first|refine c_split (fun hq=>?_) (fun hq=>?_)|refine q_split (fun hq=>?_) (fun hq=>?_))<;>(try first|(conv=>arg 8;simp only [hq])|(conv=>arg 4;simp only [hq])))|(with_reducible refine fin_0 ?_ (by first|rfl|(conv=>lhs;simp only [go_sem])) ?_)|exact Sub.refl _|omega)
  rw [eK_leaf h0,h0]
  have h2:=rcalls_nilP (pre:=[⟨0,5,[]⟩]) (post:=[⟨0,5,[]⟩]) h (by rw [D.purL,eD_pur]; rfl) rfl (fun it hit=>by obtain rfl:=List.mem_singleton.1 hit; rfl)
  rw [show k + 4 * ((eszL [] : Nat) : Int) = k by rw [eszL]; omega]
  exact h2
 ·have hms:=markExprS_rc e h0 k hk hl
  have hm0 : e.ks.map eD ≠ []:=fun h=>h0 (List.map_eq_nil_iff.1 h)
  have hkD : kD 0 5 (e.ks.map eD) = .kow 0 5 e.ks.length:=by unfold kD; rw [if_neg hm0,List.length_map]
  let fm : Fm:=⟨fun _=>1,fun i=>if i = 0 then [⟨0,5,e.ks.map eD⟩] else [⟨0,5,(mkEL e.ks k).map eD⟩]⟩
  refine rcalls_of c_Z18 mixed fm 0 1 (fun κ=>if κ = 0 then 0 else 2000000) (Nat.le_of_ble_eq_true rfl) rfl rfl (List.Perm.refl _) (List.Perm.refl _) (fun it hit _=>?_) (fun κ h=>?_) (fun κ hκ=>?_) (Nat.le_refl _) (by omega) (fun m0=>?_)
  ·obtain rfl:=List.mem_singleton.1 hit
   exact Nat.zero_lt_one
  ·have h : κ < 1:=h
   obtain rfl : κ = 0:=by omega
   rfl
  ·show nb ≤ if κ = 0 then _ else 2000000
   rw [if_neg (by omega)]; decide
  ·rw [eK,hkD]
   conv=>arg 3; whnf
   repeat' ((fail_if_success (with_reducible first | refine s_call ?_ | refine s_cal ?_ | refine s_inv ?_)); first | with_reducible refine acc_none ?_ | (conv in hold _=>simp (disch:=omega) only [go_sem])|refine Stp.go ?_|(with_reducible first|refine it_pos rfl ?_|refine it_neg (by decide) ?_|refine st_nil rfl ?_|refine s_op ?_ ?_|exact trivial)|((with_reducible first|refine dw_reg0 ?_|refine dw_regB ?_);(conv=>arg 3;whnf))|(refine Spl.go (fun hq he=>?_) (fun hq he=>?_)<;>first|(exfalso;clear hq;omega)|((try first|(conv=>arg 8;simp only [hq])|(conv=>arg 4;simp only [hq]));clear hq))|((with_reducible first|refine c_split (fun hq=>?_) (fun hq=>?_)|refine q_split (fun hq=>?_) (fun hq=>?_))<;>(try first|(conv=>arg 8;simp only [hq])|(conv=>arg 4;simp only [hq])))|(with_reducible refine fin_0 ?_ (by first|rfl|(conv=>lhs;simp only [go_sem])) ?_)|exact Sub.refl _|omega)
   refine s_rcall (fm:=fm) (p:=1) (m0:=m0) (k:=0) 1 [0] [] hms (by ((conv=>lhs; simp (disch:=omega) only [go_sem]); try rfl)) (by ((conv=>lhs; simp (disch:=omega) only [go_sem]); try rfl)) rfl (rr:=I (k + 4 * eszL e.ks)) rfl rfl rfl rfl (fun κ h=>?_) (Nat.le_refl _) (List.Perm.refl _) (List.Perm.refl _) (fun it hit _=>?_) (fun it hit _=>?_) (fun it hit _=>(by cases hit)) (Nat.le_refl _) rfl (show 1 ≤ 900000 by omega) (show 1 ≤ 900000 by omega) ?_
   ·obtain rfl:=List.mem_singleton.1 h
    exact Nat.zero_lt_one
   ·obtain rfl:=List.mem_singleton.1 hit
    exact Nat.zero_lt_one
   ·obtain rfl:=List.mem_singleton.1 hit
    exact Nat.zero_lt_one
   ·repeat' (first|with_reducible refine acc_none ?_ | (conv in hold _=>simp (disch:=omega) only [go_sem])|refine Stp.go ?_|(with_reducible first|refine it_pos rfl ?_|refine it_neg (by decide) ?_|refine st_nil rfl ?_|refine s_op ?_ ?_|exact trivial)|((with_reducible first|refine dw_reg0 ?_|refine dw_regB ?_);(conv=>arg 3;whnf))|(refine Spl.go (fun hq he=>?_) (fun hq he=>?_)<;>first|(exfalso;clear hq;omega)|((try first|(conv=>arg 8;simp only [hq])|(conv=>arg 4;simp only [hq]));clear hq))|((with_reducible first|refine c_split (fun hq=>?_) (fun hq=>?_)|refine q_split (fun hq=>?_) (fun hq=>?_))<;>(try first|(conv=>arg 8;simp only [hq])|(conv=>arg 4;simp only [hq])))|(with_reducible refine fin_0 ?_ (by first|rfl|(conv=>lhs;simp only [go_sem])) ?_)|exact Sub.refl _|omega)
    refine fin_RC (by ((conv=>lhs; simp (disch:=omega) only [go_sem]); try rfl)) ?_ (by ((conv=>lhs; simp (disch:=omega) only [go_sem]); try rfl))
    repeat' (first|(conv in hold _=>simp (disch:=omega) only [go_sem])|exact trivial|exact Sub.refl _|omega)
end Go.Proofs.Ytclkehekhdfnnaa
