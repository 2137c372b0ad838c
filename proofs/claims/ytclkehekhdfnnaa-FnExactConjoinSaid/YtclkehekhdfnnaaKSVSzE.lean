/-
  What the exact laws do with an expression that came in: they measure it, copy it and compare it. No condition.
-/
import Derived.Test.YtclkehekhdfnnaaKSDca
import Derived.Test.YtclkehekhdfnnaaJSVCols
import Derived.Test.YtclkehekhdfnnaaJSVBit
import Derived.Test.YtclkehekhdfnnaaJSVSzW
import Derived.Test.YtclkehekhdfnnaaJSVVa
import Derived.Test.YtclkehekhdfnnaaJSVLib
import Derived.Test.YtclkehekhdfnnaaSVGo
set_option maxHeartbeats 4000000
set_option maxRecDepth 100000
namespace Go.Proofs.Ytclkehekhdfnnaa
open Go.RowKit
theorem szExprS_ok (l : List E) (hl : l.length ≤ big) (left : Int) (h0 : 0 ≤ left) (h1 : left ≤ 1048576) (ih : ∀ x,x ∈ l → ∀ left : Int,0 ≤ left → left ≤ 1048576 → Does Try.prog 8 [] [eD x,I left] (I (szV (eszL x.ks) left)) []) :
  Does Try.prog 17 [] [.sl 5 (l.map eD),I left] (I (szV (eszL l) left)) []:=by
 unfold big at hl
 have hlen:=eszL_len l
 by_cases hfit : (l.length : Int) ≤ left
 ·refine Bg c_Z24 mixed (go1 trivial ?_)
  refine dw_for (c:=0) (l:=fun i=>[(0,.sl 5 (l.map eD)),(1,I (left - l.length - (eszL (l.take i) - i))),(5,I i)]) l.length (fun i=>0 ≤ left - l.length - ((eszL (l.take i) : Int) - i)) 0 (by rw [List.take_zero,eszL]; omega) (Wk.list [] rfl rfl ?_) (fun i hi hJ=>?_) (Nat.zero_le _)
  ·repeat' (first|(conv in hold _=>simp (disch:=omega) only [go_sem])|exact trivial|exact Sub.refl _|omega)
   rw [eszL]
   exact ⟨congrArg (fun n=>D.v (Value.int .i64 n)) (by omega),rfl⟩
  ·have hlow:=eszL_low l i hi
   rcases at_or_end hi with ⟨x,hx,hlt⟩ | rfl
   ·have hnx:=eszL_next hx
    have hxe:=esz_eq x
    have hrest:=eszL_rest l (i + 1) hlt
    have hix:=ih x (List.mem_of_getElem? hx) (left - l.length - (eszL (l.take i) - i)) hJ (by omega)
    by_cases hx0 : (eszL x.ks : Int) ≤ left - l.length - (eszL (l.take i) - i)
    ·rw [szV_t hx0] at hix
     refine go1 @hx ?_
     refine Uc trivial (hix) (go1 trivial ?_)
     refine ⟨hlt,by omega,Wk.list [] rfl rfl ?_⟩
     repeat' (first|(conv in hold _=>simp (disch:=omega) only [go_sem])|exact trivial|exact Sub.refl _|omega)
     exact congrArg (fun n=>D.v (Value.int .i64 n)) (by omega)
    ·rw [szV_f hx0] at hix
     rw [szV_f (by omega)]
     refine go1 @hx ?_
     exact Uc trivial (hix) (go0 trivial)
   ·rw [List.take_length] at hJ hlow
    rw [szV_t (by omega)]
    repeat' (first|with_reducible refine acc_none ?_ | (conv in hold _=>simp (disch:=omega) only [go_sem,List.take_length])|refine Stp.go ?_|(with_reducible first|refine it_pos rfl ?_|refine it_neg (by decide) ?_|refine st_nil rfl ?_|refine s_op ?_ ?_|exact trivial)|((with_reducible first|refine dw_reg0 ?_|refine dw_regB ?_);(conv=>arg 3;whnf))|(refine Spl.go (fun hq he=>?_) (fun hq he=>?_)<;>first|(exfalso;clear hq;omega)|((try first|(conv=>arg 8;simp only [hq])|(conv=>arg 4;simp only [hq]));clear hq))|((with_reducible first|refine c_split (fun hq=>?_) (fun hq=>?_)|refine q_split (fun hq=>?_) (fun hq=>?_))<;>(try first|(conv=>arg 8;simp only [hq])|(conv=>arg 4;simp only [hq])))|(with_reducible refine fin_0 ?_ (by first|rfl|(conv=>lhs;simp only [go_sem,List.take_length])) ?_)|exact Sub.refl _|omega)
    exact Sub.of_eq (congrArg (fun n=>D.v (Value.int .i64 n)) (by omega))
 ·rw [szV_f (by omega)]
  exact Bg c_Z24 mixed (go0 trivial)
theorem szExpr_ok : ∀ (e : E),Most e → ∀ left : Int,0 ≤ left → left ≤ 1048576 → Does Try.prog 8 [] [eD e,I left] (I (szV (eszL e.ks) left)) []:=by
 refine E.ind (fun e ih hm left h0 h1=>?_)
 have h:=szExprS_ok e.ks hm.len left h0 h1 (fun x hx=>ih x hx (hm.kid hx))
 by_cases hfit : (eszL e.ks : Int) ≤ left
 ·rw [szV_t hfit] at h ⊢
  refine Bg c_Z31 mixed (go1 trivial ?_)
  exact Uc trivial (h) (go0 trivial)
 ·rw [szV_f hfit] at h ⊢
  refine Bg c_Z31 mixed (go1 trivial ?_)
  exact Uc trivial (h) (go0 trivial)
theorem eD_pur (e : E) : (eD e).pur = true:=by rw [eD_eq]; simp only [go_sem]
def zED : D:=.agg [I 0,I 0,Bo false,I 0,.nul]
theorem toExprS_ok (l : List E) (hl : eszL l ≤ 1048576) (ih : ∀ x,x ∈ l → Does Try.prog 10 [] [eD x] (eD x) []) : Does Try.prog 19 [] [.sl 5 (l.map eD)] (.sl 5 (l.map eD)) []:=by
 have hlen:=eszL_len l
 have hz:=fil_zero eD zED l
 have hren:=fil_ren eD zED eD_pur rfl l
 refine Bg c_Z25 mixed (go1 trivial ?_)
 refine dw_for (c:=1) (l:=fun i=>[(0,.sl 5 (l.map eD)),(3,.own 1000000 5 l.length),(4,I i),(1000000,.row 5 (fil eD zED l i))]) l.length (fun _=>True) 0 trivial (Wk.list [2000007] rfl rfl ?_) (fun i hi _=>?_) (Nat.zero_le _)
 ·repeat' (first|(conv in hold _=>simp (disch:=omega) only [go_sem,hren])|exact trivial|exact Sub.refl _|omega)
  rw [hz]
  exact ⟨rfl,rfl⟩
 ·have hfl:=fil_len eD zED l hi
  have hft:=fil_take eD zED l hi
  rcases at_or_end hi with ⟨x,hx,hlt⟩ | rfl
  ·have hix:=ih x (List.mem_of_getElem? hx)
   have hst:=fil_set eD zED hx
   rw [eD_eq] at hst
   have hgi : (fil eD zED l i)[i]? = some (.agg [I 0,I 0,Bo false,I 0,.nul]):=fil_get eD zED hlt
   refine go1 (cj4 @hx @hfl @hft @hgi) ?_
   refine Uc (cj3 @hfl @hft @hgi) (hix) (go1 (cj3 @hfl @hft @hgi) ?_)
   refine ⟨hlt,trivial,Wk.list [1000000] rfl rfl ?_⟩
   repeat' (first|(conv in hold _=>simp (disch:=omega) only [go_sem,hst,hren])|exact trivial|exact Sub.refl _|omega)
  ·have he:=fil_end eD zED l
   refine go1F @he ?_
   refine fin_wk (wk_frz 2 1000000 (by decide) (by decide) rfl ?_) ?_
   rotate_left
   (conv in hold _=>simp (disch:=omega) only [go_sem,hft,he,hfl])
   ·refine fin_L [] ?_ ?_ rfl ?_
    repeat' (first|(conv in hold _=>simp (disch:=omega) only [go_sem])|exact trivial|exact Sub.refl _|omega)
   ·exact exprs_pur _
theorem toExpr_ok : ∀ e : E,esz e ≤ 1048577 → Does Try.prog 10 [] [eD e] (eD e) []:=by
 refine E.ind (fun e ih h=>?_)
 rw [esz_eq] at h
 have hk:=toExprS_ok e.ks (by omega) (fun x hx=>ih x hx (by have:=eszL_mem hx; omega))
 have hv:=toValue_ok e.v
 refine Bg c_Z32 mixed (go1 trivial ?_)
 refine Uc trivial (hv) (go1 trivial ?_)
 exact Uc trivial (hk) (go0 trivial)
theorem eqExprS_ok (l : List E) (ih : ∀ x,x ∈ l → Does Try.prog 13 [] [eD x,eD x] (Bo true) []) (hl : eszL l ≤ 1048576) : Does Try.prog 21 [] [.sl 5 (l.map eD),.sl 5 (l.map eD)] (Bo true) []:=by
 have hlen:=eszL_len l
 refine Bg c_Z22 mixed (go1 trivial ?_)
 refine dw_for (c:=0) (l:=fun i=>[(0,.sl 5 (l.map eD)),(1,.sl 5 (l.map eD)),(5,I i)]) l.length (fun _=>True) 0 trivial (Wk.list [] rfl rfl ?_) (fun i hi _=>?_) (Nat.zero_le _)
 ·repeat' (first|(conv in hold _=>simp (disch:=omega) only [go_sem,beq_self_eq_true,bne_self_eq_false])|exact trivial|exact Sub.refl _|omega)
  exact rfl
 ·rcases at_or_end hi with ⟨x,hx,hlt⟩ | rfl
  ·have hix:=ih x (List.mem_of_getElem? hx)
   refine go1 @hx ?_
   refine Uc trivial (hix) (go1 trivial ?_)
   refine ⟨hlt,trivial,Wk.list [] rfl rfl ?_⟩
   repeat' (first|(conv in hold _=>simp (disch:=omega) only [go_sem,beq_self_eq_true,bne_self_eq_false])|exact trivial|exact Sub.refl _|omega)
  ·exact go0 trivial
theorem eqExpr_ok : ∀ e : E,esz e ≤ 1048577 → Does Try.prog 13 [] [eD e,eD e] (Bo true) []:=by
 refine E.ind (fun e ih h=>?_)
 rw [esz_eq] at h
 have hk:=eqExprS_ok e.ks (fun x hx=>ih x hx (by have:=eszL_mem hx; omega)) (by omega)
 have hv:=eqValue_ok e.v
 refine Bg c_Z30 mixed (go1 trivial ?_)
 refine Uc trivial (hv) (go1 trivial ?_)
 exact Uc trivial (hk) (go0 trivial)
end Go.Proofs.Ytclkehekhdfnnaa
