/-
  How often a row occurs, in both packages. No condition.
-/
import Derived.Test.YtedmegmhjmabcaaKSDca
import Derived.Test.YtedmegmhjmabcaaKSDcc
import Derived.Test.YtedmegmhjmabcaaJSVTbI
set_option maxHeartbeats 4000000
set_option maxRecDepth 100000
set_option linter.unusedVariables false
set_option linter.unusedSimpArgs false
namespace Go.Proofs.Ytedmegmhjmabcaa
open Go.RowKit
def curH (rs : List (List V)) (row : List V) : List D:=[.obj [.ref 1000002 0],.obj [rowD row],.obj [rowsD rs,.fn 90 []]]
attribute [go_sem] curH
theorem geRow_ok (rs : List (List V)) (r row : List V) (hl : r.length = row.length) (h6 : r.length < 2000000) (hr : ∀ v,v ∈ r → v.ok) (ho : ∀ v,v ∈ row → v.ok) : Does Try.prog 142 (curH rs row) [rowD r,.ref 1000000 0,.ref 1000001 0] (Bo (decide (0 ≤ cmpR r row))) (curH rs row):=by
 have h:=compareRows_impl r row hl h6 hr ho
 refine does c_Z2 mixed (Nat.le_of_ble_eq_true rfl) 3 rfl ?_
 conv=>arg 3; whnf
 repeat' (first|with_reducible refine acc_none ?_ | (conv in hold _=>simp (disch:=omega) only [go_sem])|refine Stp.go ?_|(with_reducible first|refine it_pos rfl ?_|refine it_neg (by decide) ?_|refine st_nil rfl ?_|refine s_op ?_ ?_|exact trivial)|((with_reducible first|refine dw_reg0 ?_|refine dw_regB ?_);(conv=>arg 3;whnf))|(refine Spl.go (fun hq he=>?_) (fun hq he=>?_)<;>first|(exfalso;clear hq;omega)|((try first|(conv=>arg 8;simp only [hq])|(conv=>arg 4;simp only [hq]));clear hq))|((with_reducible first|refine c_split (fun hq=>?_) (fun hq=>?_)|refine q_split (fun hq=>?_) (fun hq=>?_))<;>(try first|(conv=>arg 8;simp only [hq])|(conv=>arg 4;simp only [hq])))|(with_reducible refine fin_0 ?_ (by first|rfl|(conv=>lhs;simp only [go_sem])) ?_)|exact Sub.refl _|omega)
 refine v_fn ((by kernel_rfl)) ?_
 refine c_doesE (h) ?_ ?_ ?_
 ·((try (conv=>rhs;simp (disch:=omega) only [go_sem])); try rfl)
 ·first|rfl|(conv=>lhs;simp only [go_sem])
 repeat' (first|with_reducible refine acc_none ?_ | (conv in hold _=>simp (disch:=omega) only [go_sem])|refine Stp.go ?_|(with_reducible first|refine it_pos rfl ?_|refine it_neg (by decide) ?_|refine st_nil rfl ?_|refine s_op ?_ ?_|exact trivial)|((with_reducible first|refine dw_reg0 ?_|refine dw_regB ?_);(conv=>arg 3;whnf))|(refine Spl.go (fun hq he=>?_) (fun hq he=>?_)<;>first|(exfalso;clear hq;omega)|((try first|(conv=>arg 8;simp only [hq])|(conv=>arg 4;simp only [hq]));clear hq))|((with_reducible first|refine c_split (fun hq=>?_) (fun hq=>?_)|refine q_split (fun hq=>?_) (fun hq=>?_))<;>(try first|(conv=>arg 8;simp only [hq])|(conv=>arg 4;simp only [hq])))|(with_reducible refine fin_0 ?_ (by first|rfl|(conv=>lhs;simp only [go_sem])) ?_)|exact Sub.refl _|omega)
 refine fin_L [1000000,1000001,1000002] ?_ ?_ rfl ?_
 repeat' (first|(conv in hold _=>simp (disch:=omega) only [go_sem])|exact trivial|exact Sub.refl _|omega)
theorem gtRow_ok (rs : List (List V)) (r row : List V) (hl : r.length = row.length) (h6 : r.length < 2000000) (hr : ∀ v,v ∈ r → v.ok) (ho : ∀ v,v ∈ row → v.ok) : Does Try.prog 143 (curH rs row) [rowD r,.ref 1000000 0,.ref 1000001 0] (Bo (decide (0 < cmpR r row))) (curH rs row):=by
 have h:=compareRows_impl r row hl h6 hr ho
 refine does c_Z3 mixed (Nat.le_of_ble_eq_true rfl) 3 rfl ?_
 conv=>arg 3; whnf
 repeat' (first|with_reducible refine acc_none ?_ | (conv in hold _=>simp (disch:=omega) only [go_sem])|refine Stp.go ?_|(with_reducible first|refine it_pos rfl ?_|refine it_neg (by decide) ?_|refine st_nil rfl ?_|refine s_op ?_ ?_|exact trivial)|((with_reducible first|refine dw_reg0 ?_|refine dw_regB ?_);(conv=>arg 3;whnf))|(refine Spl.go (fun hq he=>?_) (fun hq he=>?_)<;>first|(exfalso;clear hq;omega)|((try first|(conv=>arg 8;simp only [hq])|(conv=>arg 4;simp only [hq]));clear hq))|((with_reducible first|refine c_split (fun hq=>?_) (fun hq=>?_)|refine q_split (fun hq=>?_) (fun hq=>?_))<;>(try first|(conv=>arg 8;simp only [hq])|(conv=>arg 4;simp only [hq])))|(with_reducible refine fin_0 ?_ (by first|rfl|(conv=>lhs;simp only [go_sem])) ?_)|exact Sub.refl _|omega)
 refine v_fn ((by kernel_rfl)) ?_
 refine c_doesE (h) ?_ ?_ ?_
 ·((try (conv=>rhs;simp (disch:=omega) only [go_sem])); try rfl)
 ·first|rfl|(conv=>lhs;simp only [go_sem])
 repeat' (first|with_reducible refine acc_none ?_ | (conv in hold _=>simp (disch:=omega) only [go_sem])|refine Stp.go ?_|(with_reducible first|refine it_pos rfl ?_|refine it_neg (by decide) ?_|refine st_nil rfl ?_|refine s_op ?_ ?_|exact trivial)|((with_reducible first|refine dw_reg0 ?_|refine dw_regB ?_);(conv=>arg 3;whnf))|(refine Spl.go (fun hq he=>?_) (fun hq he=>?_)<;>first|(exfalso;clear hq;omega)|((try first|(conv=>arg 8;simp only [hq])|(conv=>arg 4;simp only [hq]));clear hq))|((with_reducible first|refine c_split (fun hq=>?_) (fun hq=>?_)|refine q_split (fun hq=>?_) (fun hq=>?_))<;>(try first|(conv=>arg 8;simp only [hq])|(conv=>arg 4;simp only [hq])))|(with_reducible refine fin_0 ?_ (by first|rfl|(conv=>lhs;simp only [go_sem])) ?_)|exact Sub.refl _|omega)
 refine fin_L [1000000,1000001,1000002] ?_ ?_ rfl ?_
 repeat' (first|(conv in hold _=>simp (disch:=omega) only [go_sem])|exact trivial|exact Sub.refl _|omega)
theorem search_ok (ls rs : List (List V)) (row : List V) (hl : rs.length ≤ 400) (f : FuncId) (hf : enters Try.prog f = true) (q : List V → Bool) (h : ∀ x,x ∈ rs → Does Try.prog f (curH ls row) [rowD x,.ref 1000000 0,.ref 1000001 0] (Bo (q x)) (curH ls row))
  (hq : ∀ (i j : Nat) (x y : List V),i ≤ j → rs[i]? = some x → rs[j]? = some y → q x = true → q y = true) :
  ∃ r : Nat,r ≤ rs.length ∧ (∀ (j : Nat) (x : List V),j < r → rs[j]? = some x → q x = false) ∧ (∀ (j : Nat) (x : List V),r ≤ j → rs[j]? = some x → q x = true) ∧ Does Try.prog 141 (curH ls row) [rowsD rs,.fn f [.ref 1000000 0,.ref 1000001 0]] (I r) (curH ls row):=by
 have hat : ∀ (j : Nat) (x : List V),rs[j]? = some x → (fun j=>q (rs.getD j [])) j = q x:=fun j x hj=>by
  show q (rs.getD j []) = q x
  rw [List.getD_eq_getElem?_getD,hj]
  rfl
 have hp : ∀ i j,i ≤ j → j < rs.length → (fun j=>q (rs.getD j [])) i = true → (fun j=>q (rs.getD j [])) j = true:=fun i j hij hj hi=>by
  have e1:=List.getElem?_eq_getElem (l:=rs) (i:=i) (by omega)
  have e2:=List.getElem?_eq_getElem hj
  rw [hat _ _ e1] at hi
  rw [hat _ _ e2]
  exact hq i j _ _ hij e1 e2 hi
 generalize (fun j=>q (rs.getD j [])) = p at hat hp
 have hinv:=itB_inv (p:=p) (n:=rs.length) hp
 have hend:=hinv rs.length
 have hee : (itB p rs.length rs.length).1 = (itB p rs.length rs.length).2:=by omega
 refine ⟨(itB p rs.length rs.length).1,by omega,fun j x hj hx=>?_,fun j x hj hx=>?_,?_⟩
 ·rw [← hat j x hx]
  exact hend.2.1 j hj
 ·rw [← hat j x hx]
  exact hend.2.2 j (by omega) (List.getElem?_eq_some_iff.1 hx).1
 ·refine does c_Z7 mixed (Nat.le_of_ble_eq_true rfl) 3 rfl ?_
  conv=>arg 3; whnf
  repeat' (first|with_reducible refine acc_none ?_ | (conv in hold _=>simp (disch:=omega) only [go_sem])|refine Stp.go ?_|(with_reducible first|refine it_pos rfl ?_|refine it_neg (by decide) ?_|refine st_nil rfl ?_|refine s_op ?_ ?_|exact trivial)|((with_reducible first|refine dw_reg0 ?_|refine dw_regB ?_);(conv=>arg 3;whnf))|(refine Spl.go (fun hq he=>?_) (fun hq he=>?_)<;>first|(exfalso;clear hq;omega)|((try first|(conv=>arg 8;simp only [hq])|(conv=>arg 4;simp only [hq]));clear hq))|((with_reducible first|refine c_split (fun hq=>?_) (fun hq=>?_)|refine q_split (fun hq=>?_) (fun hq=>?_))<;>(try first|(conv=>arg 8;simp only [hq])|(conv=>arg 4;simp only [hq])))|(with_reducible refine fin_0 ?_ (by first|rfl|(conv=>lhs;simp only [go_sem])) ?_)|exact Sub.refl _|omega)
  refine dw_for (c:=3) (l:=fun i=>[(0,rowsD rs),(1,.fn f [.ref 1000000 0,.ref 1000001 0]),(5,I (itB p rs.length i).1),(6,I (itB p rs.length i).2),(1000000,.obj [.ref 1000002 0]),(1000001,.obj [rowD row]),(1000002,.obj [rowsD ls,.fn 90 []])]) rs.length (fun _=>True) 0 trivial (Wk.list [1000000,1000001,1000002] rfl rfl ?_) (fun i hi _=>?_) (Nat.zero_le _)
  ·repeat' (first|(conv in hold _=>simp (disch:=omega) only [go_sem])|exact trivial|exact Sub.refl _|omega)
   exact ⟨rfl,rfl⟩
  ·have hi3:=hinv i
   have hnx : itB p rs.length (i + 1) = stepB p (itB p rs.length i):=rfl
   have hstop:=itB_end (p:=p) (n:=rs.length) (i:=i)
   generalize itB p rs.length i = s at hi3 hnx hstop
   obtain ⟨lo,hi'⟩:=s
   simp only at hi3 hstop
   by_cases hlt : lo < hi'
   ·have hmid : ((lo : Int) + (hi' : Int)).tdiv 2 = (((lo + hi') / 2 : Nat) : Int):=by
     rw [Int.tdiv_eq_ediv_of_nonneg (by omega)]
     omega
    have hw : IntKind.i64.wrap (((lo + hi') / 2 : Nat) : Int) = (((lo + hi') / 2 : Nat) : Int):=wrap64 (by omega) (by omega)
    have hx:=List.getElem?_eq_getElem (l:=rs) (i:=(lo + hi') / 2) (by omega)
    generalize rs[(lo + hi') / 2]'(by omega) = x at hx
    have hfx:=h x (List.mem_of_getElem? hx)
    rw [← hat _ x hx] at hfx
    have hmr : (lo + hi') / 2 < rs.length:=by omega
    unfold stepB at hnx
    simp only [hlt,if_true] at hnx
    generalize (lo + hi') / 2 = m at hmid hw hx hfx hmr hnx
    cases hm : p m with
    | true=>
     rw [hm] at hfx
     rw [hm] at hnx
     simp only [if_true] at hnx
     repeat' (first|with_reducible refine acc_none ?_ | (conv in hold _=>simp (disch:=omega) only [go_sem,hmid,hw,List.getElem?_map,hx,Option.map_some])|refine Stp.go ?_|(with_reducible first|refine it_pos rfl ?_|refine it_neg (by decide) ?_|refine st_nil rfl ?_|refine s_op ?_ ?_|exact trivial)|((with_reducible first|refine dw_reg0 ?_|refine dw_regB ?_);(conv=>arg 3;whnf))|(refine Spl.go (fun hq he=>?_) (fun hq he=>?_)<;>first|(exfalso;clear hq;omega)|((try first|(conv=>arg 8;simp only [hq])|(conv=>arg 4;simp only [hq]));clear hq))|((with_reducible first|refine c_split (fun hq=>?_) (fun hq=>?_)|refine q_split (fun hq=>?_) (fun hq=>?_))<;>(try first|(conv=>arg 8;simp only [hq])|(conv=>arg 4;simp only [hq])))|(with_reducible refine fin_0 ?_ (by first|rfl|(conv=>lhs;simp only [go_sem,hmid,hw,List.getElem?_map,hx,Option.map_some])) ?_)|exact Sub.refl _|omega)
     refine v_fn (hf) ?_
     refine c_doesR [1000000,1000001,1000002] (hfx) (callOK_of rfl (Nat.le_of_ble_eq_true rfl) rfl ?_ ?_) ?_ ?_
     ·repeat' (first|(conv in hold _=>simp (disch:=omega) only [go_sem])|exact trivial|exact Sub.refl _|omega)
     ·repeat' (first|(conv in hold _=>simp (disch:=omega) only [go_sem])|exact trivial|exact Sub.refl _|omega)
     ·((conv=>rhs;simp (disch:=omega) only [go_sem]); try rfl)
     repeat' (first|with_reducible refine acc_none ?_ | (conv in hold _=>simp (disch:=omega) only [go_sem])|refine Stp.go ?_|(with_reducible first|refine it_pos rfl ?_|refine it_neg (by decide) ?_|refine st_nil rfl ?_|refine s_op ?_ ?_|exact trivial)|((with_reducible first|refine dw_reg0 ?_|refine dw_regB ?_);(conv=>arg 3;whnf))|(refine Spl.go (fun hq he=>?_) (fun hq he=>?_)<;>first|(exfalso;clear hq;omega)|((try first|(conv=>arg 8;simp only [hq])|(conv=>arg 4;simp only [hq]));clear hq))|((with_reducible first|refine c_split (fun hq=>?_) (fun hq=>?_)|refine q_split (fun hq=>?_) (fun hq=>?_))<;>(try first|(conv=>arg 8;simp only [hq])|(conv=>arg 4;simp only [hq])))|(with_reducible refine fin_0 ?_ (by first|rfl|(conv=>lhs;simp only [go_sem])) ?_)|exact Sub.refl _|omega)
     refine ⟨by omega,trivial,Wk.list [1000000,1000001,1000002] rfl rfl ?_⟩
     repeat' (first|(conv in hold _=>simp (disch:=omega) only [go_sem,hnx])|exact trivial|exact Sub.refl _|omega)
    | false=>
     rw [hm] at hfx
     rw [hm] at hnx
     simp only [Bool.false_eq_true,if_false] at hnx
     repeat' (first|with_reducible refine acc_none ?_ | (conv in hold _=>simp (disch:=omega) only [go_sem,hmid,hw,List.getElem?_map,hx,Option.map_some])|refine Stp.go ?_|(with_reducible first|refine it_pos rfl ?_|refine it_neg (by decide) ?_|refine st_nil rfl ?_|refine s_op ?_ ?_|exact trivial)|((with_reducible first|refine dw_reg0 ?_|refine dw_regB ?_);(conv=>arg 3;whnf))|(refine Spl.go (fun hq he=>?_) (fun hq he=>?_)<;>first|(exfalso;clear hq;omega)|((try first|(conv=>arg 8;simp only [hq])|(conv=>arg 4;simp only [hq]));clear hq))|((with_reducible first|refine c_split (fun hq=>?_) (fun hq=>?_)|refine q_split (fun hq=>?_) (fun hq=>?_))<;>(try first|(conv=>arg 8;simp only [hq])|(conv=>arg 4;simp only [hq])))|(with_reducible refine fin_0 ?_ (by first|rfl|(conv=>lhs;simp only [go_sem,hmid,hw,List.getElem?_map,hx,Option.map_some])) ?_)|exact Sub.refl _|omega)
     refine v_fn (hf) ?_
     refine c_doesR [1000000,1000001,1000002] (hfx) (callOK_of rfl (Nat.le_of_ble_eq_true rfl) rfl ?_ ?_) ?_ ?_
     ·repeat' (first|(conv in hold _=>simp (disch:=omega) only [go_sem])|exact trivial|exact Sub.refl _|omega)
     ·repeat' (first|(conv in hold _=>simp (disch:=omega) only [go_sem])|exact trivial|exact Sub.refl _|omega)
     ·((conv=>rhs;simp (disch:=omega) only [go_sem]); try rfl)
     repeat' (first|with_reducible refine acc_none ?_ | (conv in hold _=>simp (disch:=omega) only [go_sem])|refine Stp.go ?_|(with_reducible first|refine it_pos rfl ?_|refine it_neg (by decide) ?_|refine st_nil rfl ?_|refine s_op ?_ ?_|exact trivial)|((with_reducible first|refine dw_reg0 ?_|refine dw_regB ?_);(conv=>arg 3;whnf))|(refine Spl.go (fun hq he=>?_) (fun hq he=>?_)<;>first|(exfalso;clear hq;omega)|((try first|(conv=>arg 8;simp only [hq])|(conv=>arg 4;simp only [hq]));clear hq))|((with_reducible first|refine c_split (fun hq=>?_) (fun hq=>?_)|refine q_split (fun hq=>?_) (fun hq=>?_))<;>(try first|(conv=>arg 8;simp only [hq])|(conv=>arg 4;simp only [hq])))|(with_reducible refine fin_0 ?_ (by first|rfl|(conv=>lhs;simp only [go_sem])) ?_)|exact Sub.refl _|omega)
     refine ⟨by omega,trivial,Wk.list [1000000,1000001,1000002] rfl rfl ?_⟩
     repeat' (first|(conv in hold _=>simp (disch:=omega) only [go_sem,hnx])|exact trivial|exact Sub.refl _|omega)
   ·have he1:=hstop hlt (rs.length - i)
    rw [show i + (rs.length - i) = rs.length by omega] at he1
    rw [he1]
    repeat' (first|with_reducible refine acc_none ?_ | (conv in hold _=>simp (disch:=omega) only [go_sem])|refine Stp.go ?_|(with_reducible first|refine it_pos rfl ?_|refine it_neg (by decide) ?_|refine st_nil rfl ?_|refine s_op ?_ ?_|exact trivial)|((with_reducible first|refine dw_reg0 ?_|refine dw_regB ?_);(conv=>arg 3;whnf))|(refine Spl.go (fun hq he=>?_) (fun hq he=>?_)<;>first|(exfalso;clear hq;omega)|((try first|(conv=>arg 8;simp only [hq])|(conv=>arg 4;simp only [hq]));clear hq))|((with_reducible first|refine c_split (fun hq=>?_) (fun hq=>?_)|refine q_split (fun hq=>?_) (fun hq=>?_))<;>(try first|(conv=>arg 8;simp only [hq])|(conv=>arg 4;simp only [hq])))|(with_reducible refine fin_0 ?_ (by first|rfl|(conv=>lhs;simp only [go_sem])) ?_)|exact Sub.refl _|omega)
    refine fin_L [1000000,1000001,1000002] ?_ ?_ rfl ?_
    repeat' (first|(conv in hold _=>simp (disch:=omega) only [go_sem])|exact trivial|exact Sub.refl _|omega)
theorem take_ok (rs : List (List V)) (row : List V) (hl : rs.length ≤ 400) (hro : ∀ v,v ∈ row → v.ok) (hmem : ∀ x,x ∈ rs → x.length = row.length ∧ x.length ≤ 6 ∧ ∀ v,v ∈ x → v.ok)
  (htr : ∀ (i j : Nat) (x y : List V),i ≤ j → rs[i]? = some x → rs[j]? = some y → (0 ≤ cmpR x row → 0 ≤ cmpR y row) ∧ (0 < cmpR x row → 0 < cmpR y row)) :
  ∃ a b : Nat,(a + b ≤ rs.length ∧ (∀ (j : Nat) (x : List V),j < a → rs[j]? = some x → cmpR x row < 0) ∧ (∀ (j : Nat) (x : List V),a ≤ j → rs[j]? = some x → 0 ≤ cmpR x row) ∧ (∀ (j : Nat) (x : List V),j < b → rs[a + j]? = some x → ¬ 0 < cmpR x row) ∧ (∀ (j : Nat) (x : List V),b ≤ j → rs[a + j]? = some x → 0 < cmpR x row)) ∧
   Does Try.prog 123 [.obj [rowsD rs,.fn 90 []]] [.ref 1000000 0,rowD row] (rowsD ((rs.drop a).take b)) [.obj [rowsD ((rs.drop a).drop b),.fn 90 []]]:=by
 obtain ⟨a,ha,a1,a2,hA⟩:=search_ok rs rs row hl 142 (by kernel_rfl) (fun x=>decide (0 ≤ cmpR x row)) (fun x hx=>geRow_ok rs x row (hmem x hx).1 (by have:=(hmem x hx).2.1; omega) (hmem x hx).2.2 hro)
  (fun i j x y hij hx hy h=>decide_eq_true ((htr i j x y hij hx hy).1 (of_decide_eq_true h)))
 obtain ⟨b,hb,b1,b2,hB⟩:=search_ok rs (rs.drop a) row (by rw [List.length_drop]; omega) 143 (by kernel_rfl) (fun x=>decide (0 < cmpR x row)) (fun x hx=>gtRow_ok rs x row (hmem x (List.mem_of_mem_drop hx)).1 (by have:=(hmem x (List.mem_of_mem_drop hx)).2.1; omega) (hmem x (List.mem_of_mem_drop hx)).2.2 hro)
  (fun i j x y hij hx hy h=>by
   rw [List.getElem?_drop] at hx hy
   exact decide_eq_true ((htr (a + i) (a + j) x y (by omega) hx hy).2 (of_decide_eq_true h)))
 rw [List.length_drop] at hb
 refine ⟨a,b,⟨by omega,fun j r hj hr=>by have:=of_decide_eq_false (a1 j r hj hr); omega,fun j r hj hr=>of_decide_eq_true (a2 j r hj hr),fun j r hj hr=>of_decide_eq_false (b1 j r hj (by rw [List.getElem?_drop]; exact hr)),fun j r hj hr=>of_decide_eq_true (b2 j r hj (by rw [List.getElem?_drop]; exact hr))⟩,?_⟩
 have hdr : (rs.map rowD).drop a = (rs.drop a).map rowD:=List.map_drop.symm
 have hdb : ((rs.drop a).map rowD).drop b = ((rs.drop a).drop b).map rowD:=List.map_drop.symm
 have htb : ((rs.drop a).map rowD).take b = ((rs.drop a).take b).map rowD:=List.map_take.symm
 have hld : (rs.drop a).length = rs.length - a:=List.length_drop ..
 have hdt : ((rs.drop a).map rowD).take (rs.length - a) = (rs.drop a).map rowD:=List.take_of_length_le (by rw [List.length_map,List.length_drop]; exact Nat.le_refl _)
 refine does c_Z5 mixed (Nat.le_of_ble_eq_true rfl) 1 rfl ?_
 conv=>arg 3; whnf
 repeat' (first|with_reducible refine acc_none ?_ | (conv in hold _=>simp (disch:=omega) only [go_sem])|refine Stp.go ?_|(with_reducible first|refine it_pos rfl ?_|refine it_neg (by decide) ?_|refine st_nil rfl ?_|refine s_op ?_ ?_|exact trivial)|((with_reducible first|refine dw_reg0 ?_|refine dw_regB ?_);(conv=>arg 3;whnf))|(refine Spl.go (fun hq he=>?_) (fun hq he=>?_)<;>first|(exfalso;clear hq;omega)|((try first|(conv=>arg 8;simp only [hq])|(conv=>arg 4;simp only [hq]));clear hq))|((with_reducible first|refine c_split (fun hq=>?_) (fun hq=>?_)|refine q_split (fun hq=>?_) (fun hq=>?_))<;>(try first|(conv=>arg 8;simp only [hq])|(conv=>arg 4;simp only [hq])))|(with_reducible refine fin_0 ?_ (by first|rfl|(conv=>lhs;simp only [go_sem])) ?_)|exact Sub.refl _|omega)
 refine c_doesR [2000002,2000003,1000000] (hA) (callOK_of rfl (Nat.le_of_ble_eq_true rfl) rfl ?_ ?_) ?_ ?_
 ·repeat' (first|(conv in hold _=>simp (disch:=omega) only [go_sem,hdr,hdt,hdb,htb,hld])|exact trivial|exact Sub.refl _|omega)
 ·repeat' (first|(conv in hold _=>simp (disch:=omega) only [go_sem,hdr,hdt,hdb,htb,hld])|exact trivial|exact Sub.refl _|omega)
 ·((conv=>rhs;simp (disch:=omega) only [go_sem,hdr,hdt,hdb,htb,hld]); try rfl)
 repeat' (first|with_reducible refine acc_none ?_ | (conv in hold _=>simp (disch:=omega) only [go_sem,hdr,hdt,hdb,htb,hld])|refine Stp.go ?_|(with_reducible first|refine it_pos rfl ?_|refine it_neg (by decide) ?_|refine st_nil rfl ?_|refine s_op ?_ ?_|exact trivial)|((with_reducible first|refine dw_reg0 ?_|refine dw_regB ?_);(conv=>arg 3;whnf))|(refine Spl.go (fun hq he=>?_) (fun hq he=>?_)<;>first|(exfalso;clear hq;omega)|((try first|(conv=>arg 8;simp only [hq])|(conv=>arg 4;simp only [hq]));clear hq))|((with_reducible first|refine c_split (fun hq=>?_) (fun hq=>?_)|refine q_split (fun hq=>?_) (fun hq=>?_))<;>(try first|(conv=>arg 8;simp only [hq])|(conv=>arg 4;simp only [hq])))|(with_reducible refine fin_0 ?_ (by first|rfl|(conv=>lhs;simp only [go_sem,hdr,hdt,hdb,htb,hld])) ?_)|exact Sub.refl _|omega)
 refine c_doesR [2000002,2000003,1000000] (hB) (callOK_of rfl (Nat.le_of_ble_eq_true rfl) rfl ?_ ?_) ?_ ?_
 ·repeat' (first|(conv in hold _=>simp (disch:=omega) only [go_sem,hdr,hdt,hdb,htb,hld])|exact trivial|exact Sub.refl _|omega)
 ·repeat' (first|(conv in hold _=>simp (disch:=omega) only [go_sem,hdr,hdt,hdb,htb,hld])|exact trivial|exact Sub.refl _|omega)
 ·((conv=>rhs;simp (disch:=omega) only [go_sem,hdr,hdt,hdb,htb,hld]); try rfl)
 repeat' (first|with_reducible refine acc_none ?_ | (conv in hold _=>simp (disch:=omega) only [go_sem,hdr,hdt,hdb,htb,hld])|refine Stp.go ?_|(with_reducible first|refine it_pos rfl ?_|refine it_neg (by decide) ?_|refine st_nil rfl ?_|refine s_op ?_ ?_|exact trivial)|((with_reducible first|refine dw_reg0 ?_|refine dw_regB ?_);(conv=>arg 3;whnf))|(refine Spl.go (fun hq he=>?_) (fun hq he=>?_)<;>first|(exfalso;clear hq;omega)|((try first|(conv=>arg 8;simp only [hq])|(conv=>arg 4;simp only [hq]));clear hq))|((with_reducible first|refine c_split (fun hq=>?_) (fun hq=>?_)|refine q_split (fun hq=>?_) (fun hq=>?_))<;>(try first|(conv=>arg 8;simp only [hq])|(conv=>arg 4;simp only [hq])))|(with_reducible refine fin_0 ?_ (by first|rfl|(conv=>lhs;simp only [go_sem,hdr,hdt,hdb,htb,hld])) ?_)|exact Sub.refl _|omega)
 refine fin_L [1000000] ?_ ?_ rfl ?_
 repeat' (first|(conv in hold _=>simp (disch:=omega) only [go_sem])|exact trivial|exact Sub.refl _|omega)
theorem countRow_ok (rs : List (List V)) (row : List V) (hl : rs.length ≤ 400) (h6 : ∀ r,r ∈ rs → r.length ≤ 6) (hr : row.length < 2000000) : Does Try.prog 120 [] [rowsD rs,rowD row] (I (cntE row rs)) []:=by
 refine does0 c_Z48 mixed (Nat.le_of_ble_eq_true rfl) ?_
 conv=>arg 3; whnf
 repeat' (first|with_reducible refine acc_none ?_ | (conv in hold _=>simp (disch:=omega) only [go_sem])|refine Stp.go ?_|(with_reducible first|refine it_pos rfl ?_|refine it_neg (by decide) ?_|refine st_nil rfl ?_|refine s_op ?_ ?_|exact trivial)|((with_reducible first|refine dw_reg0 ?_|refine dw_regB ?_);(conv=>arg 3;whnf))|(refine Spl.go (fun hq he=>?_) (fun hq he=>?_)<;>first|(exfalso;clear hq;omega)|((try first|(conv=>arg 8;simp only [hq])|(conv=>arg 4;simp only [hq]));clear hq))|((with_reducible first|refine c_split (fun hq=>?_) (fun hq=>?_)|refine q_split (fun hq=>?_) (fun hq=>?_))<;>(try first|(conv=>arg 8;simp only [hq])|(conv=>arg 4;simp only [hq])))|(with_reducible refine fin_0 ?_ (by first|rfl|(conv=>lhs;simp only [go_sem])) ?_)|exact Sub.refl _|omega)
 refine dw_for (c:=0) (l:=fun i=>[(0,rowsD rs),(1,rowD row),(5,I (cntE row (rs.take i))),(6,I i)]) rs.length (fun _=>True) 0 trivial (Wk.list [] rfl rfl ?_) (fun i hi _=>?_) (Nat.zero_le _)
 ·repeat' (first|(conv in hold _=>simp (disch:=omega) only [go_sem])|exact trivial|exact Sub.refl _|omega)
  exact ⟨rfl,rfl⟩
 ·have hcl:=cntE_len row (rs.take i)
  rw [List.length_take] at hcl
  rcases at_or_end hi with ⟨x,hx,hlt⟩ | rfl
  ·have hnx:=cntE_next (row:=row) hx
   have hc:=compareRows_spec x row (by have:=h6 x (List.mem_of_getElem? hx); omega) hr
   by_cases h0 : cmpR x row = 0
   ·rw [if_pos h0] at hnx
    repeat' (first|with_reducible refine acc_none ?_ | (conv in hold _=>simp (disch:=omega) only [go_sem,List.getElem?_map,hx,Option.map_some])|refine Stp.go ?_|(with_reducible first|refine it_pos rfl ?_|refine it_neg (by decide) ?_|refine st_nil rfl ?_|refine s_op ?_ ?_|exact trivial)|((with_reducible first|refine dw_reg0 ?_|refine dw_regB ?_);(conv=>arg 3;whnf))|(refine Spl.go (fun hq he=>?_) (fun hq he=>?_)<;>first|(exfalso;clear hq;omega)|((try first|(conv=>arg 8;simp only [hq])|(conv=>arg 4;simp only [hq]));clear hq))|((with_reducible first|refine c_split (fun hq=>?_) (fun hq=>?_)|refine q_split (fun hq=>?_) (fun hq=>?_))<;>(try first|(conv=>arg 8;simp only [hq])|(conv=>arg 4;simp only [hq])))|(with_reducible refine fin_0 ?_ (by first|rfl|(conv=>lhs;simp only [go_sem,List.getElem?_map,hx,Option.map_some])) ?_)|exact Sub.refl _|omega)
    refine c_doesE (hc) ?_ ?_ ?_
    ·((try (conv=>rhs;simp (disch:=omega) only [go_sem])); try rfl)
    ·first|rfl|(conv=>lhs;simp only [go_sem])
    repeat' (first|with_reducible refine acc_none ?_ | (conv in hold _=>simp (disch:=omega) only [go_sem])|refine Stp.go ?_|(with_reducible first|refine it_pos rfl ?_|refine it_neg (by decide) ?_|refine st_nil rfl ?_|refine s_op ?_ ?_|exact trivial)|((with_reducible first|refine dw_reg0 ?_|refine dw_regB ?_);(conv=>arg 3;whnf))|(refine Spl.go (fun hq he=>?_) (fun hq he=>?_)<;>first|(exfalso;clear hq;omega)|((try first|(conv=>arg 8;simp only [hq])|(conv=>arg 4;simp only [hq]));clear hq))|((with_reducible first|refine c_split (fun hq=>?_) (fun hq=>?_)|refine q_split (fun hq=>?_) (fun hq=>?_))<;>(try first|(conv=>arg 8;simp only [hq])|(conv=>arg 4;simp only [hq])))|(with_reducible refine fin_0 ?_ (by first|rfl|(conv=>lhs;simp only [go_sem])) ?_)|exact Sub.refl _|omega)
    refine ⟨hlt,trivial,Wk.list [] rfl rfl ?_⟩
    repeat' (first|(conv in hold _=>simp (disch:=omega) only [go_sem,hnx])|exact trivial|exact Sub.refl _|omega)
   ·rw [if_neg h0,Nat.add_zero] at hnx
    repeat' (first|with_reducible refine acc_none ?_ | (conv in hold _=>simp (disch:=omega) only [go_sem,List.getElem?_map,hx,Option.map_some])|refine Stp.go ?_|(with_reducible first|refine it_pos rfl ?_|refine it_neg (by decide) ?_|refine st_nil rfl ?_|refine s_op ?_ ?_|exact trivial)|((with_reducible first|refine dw_reg0 ?_|refine dw_regB ?_);(conv=>arg 3;whnf))|(refine Spl.go (fun hq he=>?_) (fun hq he=>?_)<;>first|(exfalso;clear hq;omega)|((try first|(conv=>arg 8;simp only [hq])|(conv=>arg 4;simp only [hq]));clear hq))|((with_reducible first|refine c_split (fun hq=>?_) (fun hq=>?_)|refine q_split (fun hq=>?_) (fun hq=>?_))<;>(try first|(conv=>arg 8;simp only [hq])|(conv=>arg 4;simp only [hq])))|(with_reducible refine fin_0 ?_ (by first|rfl|(conv=>lhs;simp only [go_sem,List.getElem?_map,hx,Option.map_some])) ?_)|exact Sub.refl _|omega)
    refine c_doesE (hc) ?_ ?_ ?_
    ·((try (conv=>rhs;simp (disch:=omega) only [go_sem])); try rfl)
    ·first|rfl|(conv=>lhs;simp only [go_sem])
    repeat' (first|with_reducible refine acc_none ?_ | (conv in hold _=>simp (disch:=omega) only [go_sem])|refine Stp.go ?_|(with_reducible first|refine it_pos rfl ?_|refine it_neg (by decide) ?_|refine st_nil rfl ?_|refine s_op ?_ ?_|exact trivial)|((with_reducible first|refine dw_reg0 ?_|refine dw_regB ?_);(conv=>arg 3;whnf))|(refine Spl.go (fun hq he=>?_) (fun hq he=>?_)<;>first|(exfalso;clear hq;omega)|((try first|(conv=>arg 8;simp only [hq])|(conv=>arg 4;simp only [hq]));clear hq))|((with_reducible first|refine c_split (fun hq=>?_) (fun hq=>?_)|refine q_split (fun hq=>?_) (fun hq=>?_))<;>(try first|(conv=>arg 8;simp only [hq])|(conv=>arg 4;simp only [hq])))|(with_reducible refine fin_0 ?_ (by first|rfl|(conv=>lhs;simp only [go_sem])) ?_)|exact Sub.refl _|omega)
    refine ⟨hlt,trivial,Wk.list [] rfl rfl ?_⟩
    repeat' (first|(conv in hold _=>simp (disch:=omega) only [go_sem,hnx])|exact trivial|exact Sub.refl _|omega)
  ·have e1 : rs.take rs.length = rs:=List.take_length
   repeat' (first|with_reducible refine acc_none ?_ | (conv in hold _=>simp (disch:=omega) only [go_sem,e1])|refine Stp.go ?_|(with_reducible first|refine it_pos rfl ?_|refine it_neg (by decide) ?_|refine st_nil rfl ?_|refine s_op ?_ ?_|exact trivial)|((with_reducible first|refine dw_reg0 ?_|refine dw_regB ?_);(conv=>arg 3;whnf))|(refine Spl.go (fun hq he=>?_) (fun hq he=>?_)<;>first|(exfalso;clear hq;omega)|((try first|(conv=>arg 8;simp only [hq])|(conv=>arg 4;simp only [hq]));clear hq))|((with_reducible first|refine c_split (fun hq=>?_) (fun hq=>?_)|refine q_split (fun hq=>?_) (fun hq=>?_))<;>(try first|(conv=>arg 8;simp only [hq])|(conv=>arg 4;simp only [hq])))|(with_reducible refine fin_0 ?_ (by first|rfl|(conv=>lhs;simp only [go_sem,e1])) ?_)|exact Sub.refl _|omega)
end Go.Proofs.Ytedmegmhjmabcaa
