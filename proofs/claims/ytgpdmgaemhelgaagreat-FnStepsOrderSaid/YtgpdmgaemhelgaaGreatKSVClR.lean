/-
  The copy of a plan, off a stack: a node gets lists of its own. No condition.
-/
import Derived.Test.YtgpdmgaemhelgaaGreatKSDca
import Derived.Test.YtgpdmgaemhelgaaGreatJSDce
import Derived.Test.YtgpdmgaemhelgaaGreatJSVRwA
import Derived.Test.YtgpdmgaemhelgaaGreatJSVYld
set_option maxHeartbeats 4000000
set_option maxRecDepth 100000
set_option linter.unusedVariables false
set_option linter.unusedSimpArgs false
namespace Go.Proofs.YtgpdmgaemhelgaaGreat
open Go.RowKit
theorem pre_frzR {σ : Env} {q g s sq : Nat} {es er : List D} (hq : nb ≤ q) (hqg : q ≠ g) (hcs : σ q = .row sq er) (hg : nb ≤ g) (hr : σ g = .row s es) (hp : D.purL es = true) : PreOK σ [(g,.any),(q,.row sq (D.frzL g s es er))] [q,g] [g,q]:=by
 refine ⟨fun p hpp=>?_,fun G τ a x hag hR=>?_⟩
 ·simp only [List.mem_cons,List.not_mem_nil,or_false] at hpp
  rcases hpp with rfl | rfl
  ·exact List.mem_cons_self ..
  ·exact List.mem_cons_of_mem _ (List.mem_cons_self ..)
 ·have h1:=hag q (List.mem_cons_self ..)
  have h2:=hag g (List.mem_cons_of_mem _ (List.mem_cons_self ..))
  exact wk_frzR (k:=G.k) q g hq hqg (h1.trans hcs) hg (h2.trans hr) hp G a x rfl hR
theorem cp_ok (es : List Pl) (i : Nat) (e : Pl) (hi : es[i]? = some e) (h0 : 0 < e.ks.length) (hs : psz e ≤ 800000) : Does Tryz.prog 89 [.row 5 (es.map pD)] [.eref 1000000 5 i 0] (.own 1000001 5 e.ks.length) [.row 5 ((es.map pD).set i (holeP e 1000001 e.ks.length)),.row 5 (e.ks.map pD)]:=by
 have hps:=psz_eq e
 have hle:=eszL_len e.es
 have hlk:=pszL_len e.ks
 have hk:=clonePlans_ok e.ks h0 (by omega)
 have hn:=cloneNums_ok e.cs (by omega)
 have hlt:=(List.getElem?_eq_some_iff.1 hi).1
 have hset : ∀ x : D,((es.map pD).set i x)[i]? = some x:=fun x=>by rw [List.getElem?_set_self (by rw [List.length_map]; exact hlt)]
 have hss : ∀ x y : D,((es.map pD).set i x).set i y = (es.map pD).set i y:=fun x y=>List.set_set ..
 have hsame : (es.map pD).set i (.agg [I e.k,I e.t,.sl 5 (e.es.map eD),.sl 1 (e.cs.map I),.sl 5 (e.ks.map pD)]) = es.map pD:=by
  refine List.ext_getElem? fun j=>?_
  rw [List.getElem?_set]
  split
  ·rename_i h
   subst h
   rw [List.length_map,if_pos hlt,List.getElem?_map,hi,Option.map_some,pD_eq]
   rfl
  ·rfl
 by_cases hz : e.es = []
 ·have hc:=cloneNone_ok
  rw [hz,List.map_nil] at hsame
  refine does c_Z52 mixed (Nat.le_of_ble_eq_true rfl) 1 rfl ?_
  conv=>arg 3; whnf
  repeat' (first|with_reducible refine acc_none ?_ | (conv in hold _=>simp (disch:=omega) only [go_sem,List.getElem?_map,hi,Option.map_some,List.length_map,hset,List.length_set,intsD,hz,List.map_nil])|refine Stp.go ?_|(with_reducible first|refine it_pos rfl ?_|refine it_neg (by decide) ?_|refine st_nil rfl ?_|refine s_op ?_ ?_|exact trivial)|((with_reducible first|refine dw_reg0 ?_|refine dw_regB ?_);(conv=>arg 3;whnf))|(refine Spl.go (fun hq he=>?_) (fun hq he=>?_)<;>first|(exfalso;clear hq;omega)|((try first|(conv=>arg 8;simp only [hq])|(conv=>arg 4;simp only [hq]));clear hq))|((with_reducible first|refine c_split (fun hq=>?_) (fun hq=>?_)|refine q_split (fun hq=>?_) (fun hq=>?_))<;>(try first|(conv=>arg 8;simp only [hq])|(conv=>arg 4;simp only [hq])))|(with_reducible refine fin_0 ?_ (by first|rfl|(conv=>lhs;simp only [go_sem,List.getElem?_map,hi,Option.map_some,List.length_map,hset,List.length_set,intsD,hz,List.map_nil])) ?_)|exact Sub.refl _|omega)
  refine c_doesE (hc) ?_ ?_ ?_
  ·((try (conv=>rhs;simp (disch:=omega) only [go_sem,List.getElem?_map,hi,Option.map_some,List.length_map,hset,List.length_set,intsD,hz,List.map_nil,hsame])); try rfl)
  ·first|rfl|(conv=>lhs;simp only [go_sem,List.getElem?_map,hi,Option.map_some,List.length_map,hset,List.length_set,intsD,hz,List.map_nil,hsame])
  repeat' (first|with_reducible refine acc_none ?_ | (conv in hold _=>simp (disch:=omega) only [go_sem,List.getElem?_map,hi,Option.map_some,List.length_map,hset,List.length_set,intsD,hz,List.map_nil,hsame])|refine Stp.go ?_|(with_reducible first|refine it_pos rfl ?_|refine it_neg (by decide) ?_|refine st_nil rfl ?_|refine s_op ?_ ?_|exact trivial)|((with_reducible first|refine dw_reg0 ?_|refine dw_regB ?_);(conv=>arg 3;whnf))|(refine Spl.go (fun hq he=>?_) (fun hq he=>?_)<;>first|(exfalso;clear hq;omega)|((try first|(conv=>arg 8;simp only [hq])|(conv=>arg 4;simp only [hq]));clear hq))|((with_reducible first|refine c_split (fun hq=>?_) (fun hq=>?_)|refine q_split (fun hq=>?_) (fun hq=>?_))<;>(try first|(conv=>arg 8;simp only [hq])|(conv=>arg 4;simp only [hq])))|(with_reducible refine fin_0 ?_ (by first|rfl|(conv=>lhs;simp only [go_sem,List.getElem?_map,hi,Option.map_some,List.length_map,hset,List.length_set,intsD,hz,List.map_nil,hsame])) ?_)|exact Sub.refl _|omega)
  refine dw_for (c:=1) (l:=fun j=>[(0,.eref 1000000 5 i 0),(16,.sl 5 []),(17,I 0),(18,I j),(1000000,.row 5 (es.map pD))]) 0 (fun _=>True) 0 trivial (Wk.list [1000000] rfl rfl ?_) (fun j hj _=>?_) (Nat.zero_le _)
  ·repeat' (first|(conv in hold _=>simp (disch:=omega) only [go_sem,hsame,plans_ren])|exact trivial|exact Sub.refl _|omega)
   (repeat' apply And.intro) <;> rfl
  ·obtain rfl : j = 0:=by omega
   repeat' (first|with_reducible refine acc_none ?_ | (conv in hold _=>simp (disch:=omega) only [go_sem,List.getElem?_map,hi,Option.map_some,List.length_map,hset,List.length_set,intsD,hz,List.map_nil,hsame])|refine Stp.go ?_|(with_reducible first|refine it_pos rfl ?_|refine it_neg (by decide) ?_|refine st_nil rfl ?_|refine s_op ?_ ?_|exact trivial)|((with_reducible first|refine dw_reg0 ?_|refine dw_regB ?_);(conv=>arg 3;whnf))|(refine Spl.go (fun hq he=>?_) (fun hq he=>?_)<;>first|(exfalso;clear hq;omega)|((try first|(conv=>arg 8;simp only [hq])|(conv=>arg 4;simp only [hq]));clear hq))|((with_reducible first|refine c_split (fun hq=>?_) (fun hq=>?_)|refine q_split (fun hq=>?_) (fun hq=>?_))<;>(try first|(conv=>arg 8;simp only [hq])|(conv=>arg 4;simp only [hq])))|(with_reducible refine fin_0 ?_ (by first|rfl|(conv=>lhs;simp only [go_sem,List.getElem?_map,hi,Option.map_some,List.length_map,hset,List.length_set,intsD,hz,List.map_nil,hsame])) ?_)|exact Sub.refl _|omega)
   refine c_doesE (hn) ?_ ?_ ?_
   ·((try (conv=>rhs;simp (disch:=omega) only [go_sem,List.getElem?_map,hi,Option.map_some,List.length_map,hset,List.length_set,intsD,hsame,hz,List.map_nil])); try rfl)
   ·first|rfl|(conv=>lhs;simp only [go_sem,List.getElem?_map,hi,Option.map_some,List.length_map,hset,List.length_set,intsD,hsame,hz,List.map_nil])
   repeat' (first|with_reducible refine acc_none ?_ | (conv in hold _=>simp (disch:=omega) only [go_sem,List.getElem?_map,hi,Option.map_some,List.length_map,hset,List.length_set,intsD,hsame,hz,List.map_nil])|refine Stp.go ?_|(with_reducible first|refine it_pos rfl ?_|refine it_neg (by decide) ?_|refine st_nil rfl ?_|refine s_op ?_ ?_|exact trivial)|((with_reducible first|refine dw_reg0 ?_|refine dw_regB ?_);(conv=>arg 3;whnf))|(refine Spl.go (fun hq he=>?_) (fun hq he=>?_)<;>first|(exfalso;clear hq;omega)|((try first|(conv=>arg 8;simp only [hq])|(conv=>arg 4;simp only [hq]));clear hq))|((with_reducible first|refine c_split (fun hq=>?_) (fun hq=>?_)|refine q_split (fun hq=>?_) (fun hq=>?_))<;>(try first|(conv=>arg 8;simp only [hq])|(conv=>arg 4;simp only [hq])))|(with_reducible refine fin_0 ?_ (by first|rfl|(conv=>lhs;simp only [go_sem,List.getElem?_map,hi,Option.map_some,List.length_map,hset,List.length_set,intsD,hsame,hz,List.map_nil])) ?_)|exact Sub.refl _|omega)
   refine c_doesR [3000002] (hk) (callOK_of rfl (Nat.le_of_ble_eq_true rfl) rfl ?_ ?_) ?_ ?_
   ·repeat' (first|(conv in hold _=>simp (disch:=omega) only [go_sem,List.getElem?_map,hi,Option.map_some,List.length_map,hset,List.length_set,intsD,hsame,hz,List.map_nil])|exact trivial|exact Sub.refl _|omega)
   ·repeat' (first|(conv in hold _=>simp (disch:=omega) only [go_sem,List.getElem?_map,hi,Option.map_some,List.length_map,hset,List.length_set,intsD,hsame,hz,List.map_nil])|exact trivial|exact Sub.refl _|omega)
   ·((conv=>rhs;simp (disch:=omega) only [go_sem,List.getElem?_map,hi,Option.map_some,List.length_map,hset,List.length_set,intsD,hsame,hz,List.map_nil]); try rfl)
   repeat' (first|with_reducible refine acc_none ?_ | (conv in hold _=>simp (disch:=omega) only [go_sem,List.getElem?_map,hi,Option.map_some,List.length_map,hset,List.length_set,intsD,hsame,hz,List.map_nil])|refine Stp.go ?_|(with_reducible first|refine it_pos rfl ?_|refine it_neg (by decide) ?_|refine st_nil rfl ?_|refine s_op ?_ ?_|exact trivial)|((with_reducible first|refine dw_reg0 ?_|refine dw_regB ?_);(conv=>arg 3;whnf))|(refine Spl.go (fun hq he=>?_) (fun hq he=>?_)<;>first|(exfalso;clear hq;omega)|((try first|(conv=>arg 8;simp only [hq])|(conv=>arg 4;simp only [hq]));clear hq))|((with_reducible first|refine c_split (fun hq=>?_) (fun hq=>?_)|refine q_split (fun hq=>?_) (fun hq=>?_))<;>(try first|(conv=>arg 8;simp only [hq])|(conv=>arg 4;simp only [hq])))|(with_reducible refine fin_0 ?_ (by first|rfl|(conv=>lhs;simp only [go_sem,List.getElem?_map,hi,Option.map_some,List.length_map,hset,List.length_set,intsD,hsame,hz,List.map_nil])) ?_)|exact Sub.refl _|omega)
   refine fin_L [1000000,3000002] ?_ ?_ rfl ?_
   repeat' (first|(conv in hold _=>simp (disch:=omega) only [go_sem,setP_ren,holeP,intsD,hz,List.map_nil])|exact trivial|exact Sub.refl _|omega)
 ·have hez : 0 < e.es.length:=List.length_pos_iff.2 hz
  have hc:=cloneKids_ok e.es hez (by omega)
  have hfz : D.frzL 1000001 5 (e.es.map eD) ((es.map pD).set i (.agg [I e.k,I e.t,.own 1000001 5 e.es.length,.sl 1 (e.cs.map I),.sl 5 (e.ks.map pD)])) = es.map pD:=by
   rw [D.frzL_map,List.map_set,← D.frzL_map,frzL_pure _ _ _ _ (plans_pur _)]
   have : D.frz 1000001 5 (e.es.map eD) (.agg [I e.k,I e.t,.own 1000001 5 e.es.length,.sl 1 (e.cs.map I),.sl 5 (e.ks.map pD)]) = .agg [I e.k,I e.t,.sl 5 (e.es.map eD),.sl 1 (e.cs.map I),.sl 5 (e.ks.map pD)]:=by
    simp only [D.frz,D.frzL,List.length_map,Nat.le_refl,and_self,if_true]
    rw [take_all]
   rw [this,hsame]
  refine Bk c_Z52 mixed 1 (go1 (cj3 @hi @hset @intsD.eq_1) ?_)
  refine UcR [3000001] (cj3 @hi @hset @intsD.eq_1) (hc) (go1 (cj3 @hi @hset @intsD.eq_1) ?_)
  refine dw_for (c:=2) (l:=fun j=>[(0,.eref 1000000 5 i 0),(16,.own 1000001 5 e.es.length),(17,I e.es.length),(18,I j),(1000000,.row 5 ((es.map pD).set i (.agg [I e.k,I e.t,.own 1000001 5 e.es.length,.sl 1 (e.cs.map I),.sl 5 (e.ks.map pD)]))),(1000001,.row 5 (e.es.map eD))]) e.es.length (fun _=>True) 0 trivial (Wk.list [1000000,3000001] rfl rfl ?_) (fun j hj _=>?_) (Nat.zero_le _)
  ·repeat' (first|(conv in hold _=>simp (disch:=omega) only [go_sem,setP_ren])|exact trivial|exact Sub.refl _|omega)
   (repeat' apply And.intro) <;> rfl
  ·rcases at_or_end hj with ⟨x,hx,hlt1⟩ | rfl
   ·have hcx:=cloneExpr_ok x (by have:=eszL_mem (List.mem_of_getElem? hx); omega)
    have hsx : (e.es.map eD).set j (.agg [I x.k,I x.c,Bo x.v.b,I x.v.n,.sl 5 (x.ks.map eD)]) = e.es.map eD:=by
     rw [← eD_eq,← List.map_set]
     congr 1
     refine List.ext_getElem? fun q=>?_
     rw [List.getElem?_set]
     split
     ·rename_i h
      subst h
      first | exact hx.symm | (rw [if_pos hlt1,hx])
     ·rfl
    refine go1 (cj3 @hi @hset @hx) ?_
    refine Uc (cj3 @hi @hset @hx) (hcx) (go1 (cj3 @hi @hset @hx) ?_)
    refine ⟨hlt1,trivial,Wk.list [1000000,1000001] rfl rfl ?_⟩
    exact Ag (cj2 @setP_ren @hsx)
   ·have htrue : True:=trivial
    refine go1R trivial ?_
    (with_reducible first | refine dw_reg0 ?_ | refine dw_regB ?_)
    conv=>arg 3; whnf
    refine go1R (cj2 @hi @hset) ?_
    (with_reducible first | refine dw_reg0 ?_ | refine dw_regB ?_)
    conv=>arg 3; whnf
    refine Stp.go ?_
    refine s_pre (pre_frzR (q:=1000000) (g:=1000001) (by decide) (by decide) rfl (by decide) rfl ?_) ?_
    ·exact exprs_pur _
    refine go1 (cj5 @hi @hset @hfz @hsame @intsD.eq_1) ?_
    refine Uc (cj4 @hi @hset @intsD.eq_1 @hsame) (hn) (go1 (cj4 @hi @hset @intsD.eq_1 @hsame) ?_)
    refine UcR [3000002] (cj4 @hi @hset @intsD.eq_1 @hsame) (hk) (go1 (cj4 @hi @hset @intsD.eq_1 @hsame) ?_)
    refine fin_L [1000000,3000002] ?_ ?_ rfl ?_
    all_goals exact Ag (cj3 @setP_ren @holeP.eq_1 @intsD.eq_1)
theorem cp0_ok (es : List Pl) (i : Nat) (e : Pl) (hi : es[i]? = some e) (h0 : e.ks = []) (hs : psz e ≤ 800000) : Does Tryz.prog 89 [.row 5 (es.map pD)] [.eref 1000000 5 i 0] (.sl 5 []) [.row 5 (es.map pD)]:=by
 have hps:=psz_eq e
 have hle:=eszL_len e.es
 have hlk:=pszL_len e.ks
 have hk:=clonePlansNone_ok
 have hn:=cloneNums_ok e.cs (by omega)
 have hlt:=(List.getElem?_eq_some_iff.1 hi).1
 have hset : ∀ x : D,((es.map pD).set i x)[i]? = some x:=fun x=>by rw [List.getElem?_set_self (by rw [List.length_map]; exact hlt)]
 have hss : ∀ x y : D,((es.map pD).set i x).set i y = (es.map pD).set i y:=fun x y=>List.set_set ..
 have hsame : (es.map pD).set i (.agg [I e.k,I e.t,.sl 5 (e.es.map eD),.sl 1 (e.cs.map I),.sl 5 []]) = es.map pD:=by
  refine List.ext_getElem? fun j=>?_
  rw [List.getElem?_set]
  split
  ·rename_i h
   subst h
   rw [List.length_map,if_pos hlt,List.getElem?_map,hi,Option.map_some,pD_eq,h0]
   rfl
  ·rfl
 by_cases hz : e.es = []
 ·have hc:=cloneNone_ok
  rw [hz,List.map_nil] at hsame
  refine does c_Z52 mixed (Nat.le_of_ble_eq_true rfl) 1 rfl ?_
  conv=>arg 3; whnf
  repeat' (first|with_reducible refine acc_none ?_ | (conv in hold _=>simp (disch:=omega) only [go_sem,List.getElem?_map,hi,Option.map_some,List.length_map,hset,List.length_set,intsD,hz,List.map_nil,h0,List.map_nil])|refine Stp.go ?_|(with_reducible first|refine it_pos rfl ?_|refine it_neg (by decide) ?_|refine st_nil rfl ?_|refine s_op ?_ ?_|exact trivial)|((with_reducible first|refine dw_reg0 ?_|refine dw_regB ?_);(conv=>arg 3;whnf))|(refine Spl.go (fun hq he=>?_) (fun hq he=>?_)<;>first|(exfalso;clear hq;omega)|((try first|(conv=>arg 8;simp only [hq])|(conv=>arg 4;simp only [hq]));clear hq))|((with_reducible first|refine c_split (fun hq=>?_) (fun hq=>?_)|refine q_split (fun hq=>?_) (fun hq=>?_))<;>(try first|(conv=>arg 8;simp only [hq])|(conv=>arg 4;simp only [hq])))|(with_reducible refine fin_0 ?_ (by first|rfl|(conv=>lhs;simp only [go_sem,List.getElem?_map,hi,Option.map_some,List.length_map,hset,List.length_set,intsD,hz,List.map_nil,h0,List.map_nil])) ?_)|exact Sub.refl _|omega)
  refine c_doesE (hc) ?_ ?_ ?_
  ·((try (conv=>rhs;simp (disch:=omega) only [go_sem,List.getElem?_map,hi,Option.map_some,List.length_map,hset,List.length_set,intsD,hz,List.map_nil,hsame,h0,List.map_nil])); try rfl)
  ·first|rfl|(conv=>lhs;simp only [go_sem,List.getElem?_map,hi,Option.map_some,List.length_map,hset,List.length_set,intsD,hz,List.map_nil,hsame,h0,List.map_nil])
  repeat' (first|with_reducible refine acc_none ?_ | (conv in hold _=>simp (disch:=omega) only [go_sem,List.getElem?_map,hi,Option.map_some,List.length_map,hset,List.length_set,intsD,hz,List.map_nil,hsame,h0,List.map_nil])|refine Stp.go ?_|(with_reducible first|refine it_pos rfl ?_|refine it_neg (by decide) ?_|refine st_nil rfl ?_|refine s_op ?_ ?_|exact trivial)|((with_reducible first|refine dw_reg0 ?_|refine dw_regB ?_);(conv=>arg 3;whnf))|(refine Spl.go (fun hq he=>?_) (fun hq he=>?_)<;>first|(exfalso;clear hq;omega)|((try first|(conv=>arg 8;simp only [hq])|(conv=>arg 4;simp only [hq]));clear hq))|((with_reducible first|refine c_split (fun hq=>?_) (fun hq=>?_)|refine q_split (fun hq=>?_) (fun hq=>?_))<;>(try first|(conv=>arg 8;simp only [hq])|(conv=>arg 4;simp only [hq])))|(with_reducible refine fin_0 ?_ (by first|rfl|(conv=>lhs;simp only [go_sem,List.getElem?_map,hi,Option.map_some,List.length_map,hset,List.length_set,intsD,hz,List.map_nil,hsame,h0,List.map_nil])) ?_)|exact Sub.refl _|omega)
  refine dw_for (c:=1) (l:=fun j=>[(0,.eref 1000000 5 i 0),(16,.sl 5 []),(17,I 0),(18,I j),(1000000,.row 5 (es.map pD))]) 0 (fun _=>True) 0 trivial (Wk.list [1000000] rfl rfl ?_) (fun j hj _=>?_) (Nat.zero_le _)
  ·repeat' (first|(conv in hold _=>simp (disch:=omega) only [go_sem,hsame,plans_ren])|exact trivial|exact Sub.refl _|omega)
   (repeat' apply And.intro) <;> rfl
  ·obtain rfl : j = 0:=by omega
   repeat' (first|with_reducible refine acc_none ?_ | (conv in hold _=>simp (disch:=omega) only [go_sem,List.getElem?_map,hi,Option.map_some,List.length_map,hset,List.length_set,intsD,hz,List.map_nil,hsame,h0,List.map_nil])|refine Stp.go ?_|(with_reducible first|refine it_pos rfl ?_|refine it_neg (by decide) ?_|refine st_nil rfl ?_|refine s_op ?_ ?_|exact trivial)|((with_reducible first|refine dw_reg0 ?_|refine dw_regB ?_);(conv=>arg 3;whnf))|(refine Spl.go (fun hq he=>?_) (fun hq he=>?_)<;>first|(exfalso;clear hq;omega)|((try first|(conv=>arg 8;simp only [hq])|(conv=>arg 4;simp only [hq]));clear hq))|((with_reducible first|refine c_split (fun hq=>?_) (fun hq=>?_)|refine q_split (fun hq=>?_) (fun hq=>?_))<;>(try first|(conv=>arg 8;simp only [hq])|(conv=>arg 4;simp only [hq])))|(with_reducible refine fin_0 ?_ (by first|rfl|(conv=>lhs;simp only [go_sem,List.getElem?_map,hi,Option.map_some,List.length_map,hset,List.length_set,intsD,hz,List.map_nil,hsame,h0,List.map_nil])) ?_)|exact Sub.refl _|omega)
   refine c_doesE (hn) ?_ ?_ ?_
   ·((try (conv=>rhs;simp (disch:=omega) only [go_sem,List.getElem?_map,hi,Option.map_some,List.length_map,hset,List.length_set,intsD,hsame,h0,List.map_nil,hz,List.map_nil])); try rfl)
   ·first|rfl|(conv=>lhs;simp only [go_sem,List.getElem?_map,hi,Option.map_some,List.length_map,hset,List.length_set,intsD,hsame,h0,List.map_nil,hz,List.map_nil])
   repeat' (first|with_reducible refine acc_none ?_ | (conv in hold _=>simp (disch:=omega) only [go_sem,List.getElem?_map,hi,Option.map_some,List.length_map,hset,List.length_set,intsD,hsame,h0,List.map_nil,hz,List.map_nil])|refine Stp.go ?_|(with_reducible first|refine it_pos rfl ?_|refine it_neg (by decide) ?_|refine st_nil rfl ?_|refine s_op ?_ ?_|exact trivial)|((with_reducible first|refine dw_reg0 ?_|refine dw_regB ?_);(conv=>arg 3;whnf))|(refine Spl.go (fun hq he=>?_) (fun hq he=>?_)<;>first|(exfalso;clear hq;omega)|((try first|(conv=>arg 8;simp only [hq])|(conv=>arg 4;simp only [hq]));clear hq))|((with_reducible first|refine c_split (fun hq=>?_) (fun hq=>?_)|refine q_split (fun hq=>?_) (fun hq=>?_))<;>(try first|(conv=>arg 8;simp only [hq])|(conv=>arg 4;simp only [hq])))|(with_reducible refine fin_0 ?_ (by first|rfl|(conv=>lhs;simp only [go_sem,List.getElem?_map,hi,Option.map_some,List.length_map,hset,List.length_set,intsD,hsame,h0,List.map_nil,hz,List.map_nil])) ?_)|exact Sub.refl _|omega)
   refine c_doesE (hk) ?_ ?_ ?_
   ·((try (conv=>rhs;simp (disch:=omega) only [go_sem,List.getElem?_map,hi,Option.map_some,List.length_map,hset,List.length_set,intsD,hsame,h0,List.map_nil,hz,List.map_nil])); try rfl)
   ·first|rfl|(conv=>lhs;simp only [go_sem,List.getElem?_map,hi,Option.map_some,List.length_map,hset,List.length_set,intsD,hsame,h0,List.map_nil,hz,List.map_nil])
   repeat' (first|with_reducible refine acc_none ?_ | (conv in hold _=>simp (disch:=omega) only [go_sem,List.getElem?_map,hi,Option.map_some,List.length_map,hset,List.length_set,intsD,hsame,h0,List.map_nil,hz,List.map_nil])|refine Stp.go ?_|(with_reducible first|refine it_pos rfl ?_|refine it_neg (by decide) ?_|refine st_nil rfl ?_|refine s_op ?_ ?_|exact trivial)|((with_reducible first|refine dw_reg0 ?_|refine dw_regB ?_);(conv=>arg 3;whnf))|(refine Spl.go (fun hq he=>?_) (fun hq he=>?_)<;>first|(exfalso;clear hq;omega)|((try first|(conv=>arg 8;simp only [hq])|(conv=>arg 4;simp only [hq]));clear hq))|((with_reducible first|refine c_split (fun hq=>?_) (fun hq=>?_)|refine q_split (fun hq=>?_) (fun hq=>?_))<;>(try first|(conv=>arg 8;simp only [hq])|(conv=>arg 4;simp only [hq])))|(with_reducible refine fin_0 ?_ (by first|rfl|(conv=>lhs;simp only [go_sem,List.getElem?_map,hi,Option.map_some,List.length_map,hset,List.length_set,intsD,hsame,h0,List.map_nil,hz,List.map_nil])) ?_)|exact Sub.refl _|omega)
   refine fin_L [1000000] ?_ ?_ rfl ?_
   all_goals exact Ag (cj3 @hsame @intsD.eq_1 @plans_ren)
 ·have hez : 0 < e.es.length:=List.length_pos_iff.2 hz
  have hc:=cloneKids_ok e.es hez (by omega)
  have hfz : D.frzL 1000001 5 (e.es.map eD) ((es.map pD).set i (.agg [I e.k,I e.t,.own 1000001 5 e.es.length,.sl 1 (e.cs.map I),.sl 5 []])) = es.map pD:=by
   rw [D.frzL_map,List.map_set,← D.frzL_map,frzL_pure _ _ _ _ (plans_pur _)]
   have : D.frz 1000001 5 (e.es.map eD) (.agg [I e.k,I e.t,.own 1000001 5 e.es.length,.sl 1 (e.cs.map I),.sl 5 []]) = .agg [I e.k,I e.t,.sl 5 (e.es.map eD),.sl 1 (e.cs.map I),.sl 5 []]:=by
    simp only [D.frz,D.frzL,List.length_map,Nat.le_refl,and_self,if_true]
    rw [take_all]
   rw [this,hsame]
  refine does c_Z52 mixed (Nat.le_of_ble_eq_true rfl) 1 rfl ?_
  conv=>arg 3; whnf
  repeat' (first|with_reducible refine acc_none ?_ | (conv in hold _=>simp (disch:=omega) only [go_sem,List.getElem?_map,hi,Option.map_some,List.length_map,hset,List.length_set,intsD,h0,List.map_nil])|refine Stp.go ?_|(with_reducible first|refine it_pos rfl ?_|refine it_neg (by decide) ?_|refine st_nil rfl ?_|refine s_op ?_ ?_|exact trivial)|((with_reducible first|refine dw_reg0 ?_|refine dw_regB ?_);(conv=>arg 3;whnf))|(refine Spl.go (fun hq he=>?_) (fun hq he=>?_)<;>first|(exfalso;clear hq;omega)|((try first|(conv=>arg 8;simp only [hq])|(conv=>arg 4;simp only [hq]));clear hq))|((with_reducible first|refine c_split (fun hq=>?_) (fun hq=>?_)|refine q_split (fun hq=>?_) (fun hq=>?_))<;>(try first|(conv=>arg 8;simp only [hq])|(conv=>arg 4;simp only [hq])))|(with_reducible refine fin_0 ?_ (by first|rfl|(conv=>lhs;simp only [go_sem,List.getElem?_map,hi,Option.map_some,List.length_map,hset,List.length_set,intsD,h0,List.map_nil])) ?_)|exact Sub.refl _|omega)
  refine c_doesR [3000001] (hc) (callOK_of rfl (Nat.le_of_ble_eq_true rfl) rfl ?_ ?_) ?_ ?_
  ·repeat' (first|(conv in hold _=>simp (disch:=omega) only [go_sem,List.getElem?_map,hi,Option.map_some,List.length_map,hset,List.length_set,intsD,h0,List.map_nil])|exact trivial|exact Sub.refl _|omega)
  ·repeat' (first|(conv in hold _=>simp (disch:=omega) only [go_sem,List.getElem?_map,hi,Option.map_some,List.length_map,hset,List.length_set,intsD,h0,List.map_nil])|exact trivial|exact Sub.refl _|omega)
  ·((conv=>rhs;simp (disch:=omega) only [go_sem,List.getElem?_map,hi,Option.map_some,List.length_map,hset,List.length_set,intsD,h0,List.map_nil]); try rfl)
  repeat' (first|with_reducible refine acc_none ?_ | (conv in hold _=>simp (disch:=omega) only [go_sem,List.getElem?_map,hi,Option.map_some,List.length_map,hset,List.length_set,intsD,h0,List.map_nil])|refine Stp.go ?_|(with_reducible first|refine it_pos rfl ?_|refine it_neg (by decide) ?_|refine st_nil rfl ?_|refine s_op ?_ ?_|exact trivial)|((with_reducible first|refine dw_reg0 ?_|refine dw_regB ?_);(conv=>arg 3;whnf))|(refine Spl.go (fun hq he=>?_) (fun hq he=>?_)<;>first|(exfalso;clear hq;omega)|((try first|(conv=>arg 8;simp only [hq])|(conv=>arg 4;simp only [hq]));clear hq))|((with_reducible first|refine c_split (fun hq=>?_) (fun hq=>?_)|refine q_split (fun hq=>?_) (fun hq=>?_))<;>(try first|(conv=>arg 8;simp only [hq])|(conv=>arg 4;simp only [hq])))|(with_reducible refine fin_0 ?_ (by first|rfl|(conv=>lhs;simp only [go_sem,List.getElem?_map,hi,Option.map_some,List.length_map,hset,List.length_set,intsD,h0,List.map_nil])) ?_)|exact Sub.refl _|omega)
  refine dw_for (c:=2) (l:=fun j=>[(0,.eref 1000000 5 i 0),(16,.own 1000001 5 e.es.length),(17,I e.es.length),(18,I j),(1000000,.row 5 ((es.map pD).set i (.agg [I e.k,I e.t,.own 1000001 5 e.es.length,.sl 1 (e.cs.map I),.sl 5 []]))),(1000001,.row 5 (e.es.map eD))]) e.es.length (fun _=>True) 0 trivial (Wk.list [1000000,3000001] rfl rfl ?_) (fun j hj _=>?_) (Nat.zero_le _)
  ·repeat' (first|(conv in hold _=>simp (disch:=omega) only [go_sem,setP_ren])|exact trivial|exact Sub.refl _|omega)
   (repeat' apply And.intro) <;> rfl
  ·rcases at_or_end hj with ⟨x,hx,hlt1⟩ | rfl
   ·have hcx:=cloneExpr_ok x (by have:=eszL_mem (List.mem_of_getElem? hx); omega)
    have hsx : (e.es.map eD).set j (.agg [I x.k,I x.c,Bo x.v.b,I x.v.n,.sl 5 (x.ks.map eD)]) = e.es.map eD:=by
     rw [← eD_eq,← List.map_set]
     congr 1
     refine List.ext_getElem? fun q=>?_
     rw [List.getElem?_set]
     split
     ·rename_i h
      subst h
      first | exact hx.symm | (rw [if_pos hlt1,hx])
     ·rfl
    refine go1 (cj3 @hi @hset @hx) ?_
    refine Uc (cj3 @hi @hset @hx) (hcx) (go1 (cj3 @hi @hset @hx) ?_)
    refine ⟨hlt1,trivial,Wk.list [1000000,1000001] rfl rfl ?_⟩
    exact Ag (cj2 @setP_ren @hsx)
   ·have htrue : True:=trivial
    refine go1R trivial ?_
    (with_reducible first | refine dw_reg0 ?_ | refine dw_regB ?_)
    conv=>arg 3; whnf
    refine go1R (cj2 @hi @hset) ?_
    (with_reducible first | refine dw_reg0 ?_ | refine dw_regB ?_)
    conv=>arg 3; whnf
    refine Stp.go ?_
    refine s_pre (pre_frzR (q:=1000000) (g:=1000001) (by decide) (by decide) rfl (by decide) rfl ?_) ?_
    ·exact exprs_pur _
    repeat' (first|with_reducible refine acc_none ?_ | (conv in hold _=>simp (disch:=omega) only [go_sem,List.getElem?_map,hi,Option.map_some,List.length_map,hset,List.length_set,hfz,hsame,intsD,h0,List.map_nil])|refine Stp.go ?_|(with_reducible first|refine it_pos rfl ?_|refine it_neg (by decide) ?_|refine st_nil rfl ?_|refine s_op ?_ ?_|exact trivial)|((with_reducible first|refine dw_reg0 ?_|refine dw_regB ?_);(conv=>arg 3;whnf))|(refine Spl.go (fun hq he=>?_) (fun hq he=>?_)<;>first|(exfalso;clear hq;omega)|((try first|(conv=>arg 8;simp only [hq])|(conv=>arg 4;simp only [hq]));clear hq))|((with_reducible first|refine c_split (fun hq=>?_) (fun hq=>?_)|refine q_split (fun hq=>?_) (fun hq=>?_))<;>(try first|(conv=>arg 8;simp only [hq])|(conv=>arg 4;simp only [hq])))|(with_reducible refine fin_0 ?_ (by first|rfl|(conv=>lhs;simp only [go_sem,List.getElem?_map,hi,Option.map_some,List.length_map,hset,List.length_set,hfz,hsame,intsD,h0,List.map_nil])) ?_)|exact Sub.refl _|omega)
    refine c_doesE (hn) ?_ ?_ ?_
    ·((try (conv=>rhs;simp (disch:=omega) only [go_sem,List.getElem?_map,hi,Option.map_some,List.length_map,hset,List.length_set,intsD,hsame,h0,List.map_nil])); try rfl)
    ·first|rfl|(conv=>lhs;simp only [go_sem,List.getElem?_map,hi,Option.map_some,List.length_map,hset,List.length_set,intsD,hsame,h0,List.map_nil])
    repeat' (first|with_reducible refine acc_none ?_ | (conv in hold _=>simp (disch:=omega) only [go_sem,List.getElem?_map,hi,Option.map_some,List.length_map,hset,List.length_set,intsD,hsame,h0,List.map_nil])|refine Stp.go ?_|(with_reducible first|refine it_pos rfl ?_|refine it_neg (by decide) ?_|refine st_nil rfl ?_|refine s_op ?_ ?_|exact trivial)|((with_reducible first|refine dw_reg0 ?_|refine dw_regB ?_);(conv=>arg 3;whnf))|(refine Spl.go (fun hq he=>?_) (fun hq he=>?_)<;>first|(exfalso;clear hq;omega)|((try first|(conv=>arg 8;simp only [hq])|(conv=>arg 4;simp only [hq]));clear hq))|((with_reducible first|refine c_split (fun hq=>?_) (fun hq=>?_)|refine q_split (fun hq=>?_) (fun hq=>?_))<;>(try first|(conv=>arg 8;simp only [hq])|(conv=>arg 4;simp only [hq])))|(with_reducible refine fin_0 ?_ (by first|rfl|(conv=>lhs;simp only [go_sem,List.getElem?_map,hi,Option.map_some,List.length_map,hset,List.length_set,intsD,hsame,h0,List.map_nil])) ?_)|exact Sub.refl _|omega)
    refine c_doesE (hk) ?_ ?_ ?_
    ·((try (conv=>rhs;simp (disch:=omega) only [go_sem,List.getElem?_map,hi,Option.map_some,List.length_map,hset,List.length_set,intsD,hsame,h0,List.map_nil])); try rfl)
    ·first|rfl|(conv=>lhs;simp only [go_sem,List.getElem?_map,hi,Option.map_some,List.length_map,hset,List.length_set,intsD,hsame,h0,List.map_nil])
    repeat' (first|with_reducible refine acc_none ?_ | (conv in hold _=>simp (disch:=omega) only [go_sem,List.getElem?_map,hi,Option.map_some,List.length_map,hset,List.length_set,intsD,hsame,h0,List.map_nil])|refine Stp.go ?_|(with_reducible first|refine it_pos rfl ?_|refine it_neg (by decide) ?_|refine st_nil rfl ?_|refine s_op ?_ ?_|exact trivial)|((with_reducible first|refine dw_reg0 ?_|refine dw_regB ?_);(conv=>arg 3;whnf))|(refine Spl.go (fun hq he=>?_) (fun hq he=>?_)<;>first|(exfalso;clear hq;omega)|((try first|(conv=>arg 8;simp only [hq])|(conv=>arg 4;simp only [hq]));clear hq))|((with_reducible first|refine c_split (fun hq=>?_) (fun hq=>?_)|refine q_split (fun hq=>?_) (fun hq=>?_))<;>(try first|(conv=>arg 8;simp only [hq])|(conv=>arg 4;simp only [hq])))|(with_reducible refine fin_0 ?_ (by first|rfl|(conv=>lhs;simp only [go_sem,List.getElem?_map,hi,Option.map_some,List.length_map,hset,List.length_set,intsD,hsame,h0,List.map_nil])) ?_)|exact Sub.refl _|omega)
    refine fin_L [1000000] ?_ ?_ rfl ?_
    all_goals exact Ag (cj3 @hsame @intsD.eq_1 @plans_ren)
end Go.Proofs.YtgpdmgaemhelgaaGreat
