/-
  The conjunction of expressions, plainly and by both packages. No condition.
-/
import Derived.Test.YtclkehekhdfnnaaKSDca
import Derived.Test.YtclkehekhdfnnaaKSDcb
import Derived.Test.YtclkehekhdfnnaaKSDcd
import Derived.Test.YtclkehekhdfnnaaKSDcc
import Derived.Test.YtclkehekhdfnnaaKSVClD
import Derived.Test.YtclkehekhdfnnaaKSVEsz
import Derived.Test.YtclkehekhdfnnaaJSVVa
import Derived.Test.YtclkehekhdfnnaaKSVVal
import Derived.Test.YtclkehekhdfnnaaKSVEvI
import Derived.Test.YtclkehekhdfnnaaJSVLib
import Derived.Test.YtclkehekhdfnnaaJSVCpE
import Derived.Test.YtclkehekhdfnnaaJSVWLaws
import Derived.Test.YtclkehekhdfnnaaJSVCols
set_option maxHeartbeats 4000000
set_option maxRecDepth 100000
set_option linter.unusedVariables false
set_option linter.unusedSimpArgs false
namespace Go.Proofs.Ytclkehekhdfnnaa
open Go.RowKit
def cnStep (r e : E) : E:=.mk 8 0 ⟨false,0⟩ [r,e]
def cn : List E → E
 | []=>.mk 2 0 ⟨false,1⟩ []
 | x :: l=>l.foldl cnStep x
def zeE : E:=.mk 0 0 ⟨false,0⟩ []
theorem step_ok {r e : E} {w : Int} {d : Nat} : eOk (cnStep r e) w d ↔ d ≠ 0 ∧ eOk r w (d - 1) ∧ eOk e w (d - 1):=by
 unfold cnStep
 rw [eOk_iff]
 constructor
 ·rintro ⟨_,h2,h3,_⟩
  exact ⟨h2 (by show 0 < 2; decide),h3 r (List.mem_cons_self ..),h3 e (List.mem_cons_of_mem _ (List.mem_cons_self ..))⟩
 ·rintro ⟨h1,h2,h3⟩
  refine ⟨by show ((2 : Nat) : Int) = kidsN 8; decide,fun _=>h1,fun x hx=>?_,?_⟩
  ·have hx' : x ∈ [r,e]:=hx
   simp only [List.mem_cons,List.not_mem_nil,or_false] at hx'
   rcases hx' with rfl | rfl
   ·exact h2
   ·exact h3
  ·show leafOk 8 0 ⟨false,0⟩ w
   unfold leafOk
   rw [if_neg (by omega),if_neg (by omega)]
   exact ⟨rfl,rfl,rfl⟩
theorem fold_parts {w : Int} : ∀ (l : List E) (x : E) (d : Nat),eOk (l.foldl cnStep x) w d → eOk x w d ∧ ∀ y,y ∈ l → eOk y w d
 | [],x,d,h=>⟨h,fun y hy=>by cases hy⟩
 | e :: l,x,d,h=>by
  rw [List.foldl_cons] at h
  obtain ⟨h1,h2⟩:=fold_parts l (cnStep x e) d h
  obtain ⟨_,h3,h4⟩:=step_ok.1 h1
  refine ⟨eOk_mono x (d - 1) d (by omega) h3,fun y hy=>?_⟩
  rcases List.mem_cons.1 hy with rfl | hy
  ·exact eOk_mono _ (d - 1) d (by omega) h4
  ·exact h2 y hy
theorem cn_parts {w : Int} {l : List E} {d : Nat} (h : eOk (cn l) w d) : ∀ y,y ∈ l → eOk y w d:=by
 cases l with
 | nil=>intro y hy; cases hy
 | cons x l=>
  obtain ⟨h1,h2⟩:=fold_parts l x d h
  intro y hy
  rcases List.mem_cons.1 hy with rfl | hy
  ·exact h1
  ·exact h2 y hy
noncomputable def cnV (l : List E) : E:=if l.length ≤ 9 ∧ eOk (cn l) 6 8 then cn l else zeE
theorem cnV_t {l : List E} (h1 : l.length ≤ 9) (h2 : eOk (cn l) 6 8) : cnV l = cn l:=if_pos ⟨h1,h2⟩
theorem cnV_f {l : List E} (h : ¬ (l.length ≤ 9 ∧ eOk (cn l) 6 8)) : cnV l = zeE:=if_neg h
theorem ze_sub : Sub (.agg [I 0,I 0,Bo false,I 0,.nul]) (eD zeE):=by rw [eD_eq]; exact Sub.agg ⟨Sub.refl _,Sub.refl _,Sub.refl _,Sub.refl _,Sub.nul 5,trivial⟩
theorem zeD_pur : (eD zeE).pur = true:=by rw [eD_eq]; rfl
theorem cn0_ok : eOk (cn []) 6 8:=(eOk_iff _ _ _).2 ⟨by decide,fun h=>absurd h (by show ¬ 0 < ([] : List E).length; decide),fun x hx=>(by cases hx),by
 show leafOk 2 0 ⟨false,1⟩ 6
 unfold leafOk
 rw [if_neg (by decide),if_pos rfl]
 exact ⟨rfl,by decide,by decide,fun h=>by cases h⟩⟩
theorem Conjoin_impl (l : List E) (hl : l.length ≤ 1048576) : Does Try.prog 20 [] [.sl 5 (l.map eD)] (eD (cnV l)) []:=by
 by_cases h9 : l.length ≤ 9
 ·cases l with
  | nil=>
   have hk:=constantExpr_ok ⟨false,1⟩
   rw [cnV_t (by decide) cn0_ok]
   refine does0 c_Z21 mixed (Nat.le_of_ble_eq_true rfl) ?_
   conv=>arg 3; whnf
   repeat' (first|with_reducible refine acc_none ?_ | (conv in hold _=>simp (disch:=omega) only [go_sem])|refine Stp.go ?_|(with_reducible first|refine it_pos rfl ?_|refine it_neg (by decide) ?_|refine st_nil rfl ?_|refine s_op ?_ ?_|exact trivial)|((with_reducible first|refine dw_reg0 ?_|refine dw_regB ?_);(conv=>arg 3;whnf))|(refine Spl.go (fun hq he=>?_) (fun hq he=>?_)<;>first|(exfalso;clear hq;omega)|((try first|(conv=>arg 8;simp only [hq])|(conv=>arg 4;simp only [hq]));clear hq))|((with_reducible first|refine c_split (fun hq=>?_) (fun hq=>?_)|refine q_split (fun hq=>?_) (fun hq=>?_))<;>(try first|(conv=>arg 8;simp only [hq])|(conv=>arg 4;simp only [hq])))|(with_reducible refine fin_0 ?_ (by first|rfl|(conv=>lhs;simp only [go_sem])) ?_)|exact Sub.refl _|omega)
   refine c_doesE (hk) ?_ ?_ ?_
   ·((try (conv=>rhs;simp (disch:=omega) only [go_sem])); try rfl)
   ·first|rfl|(conv=>lhs;simp only [go_sem])
   repeat' (first|with_reducible refine acc_none ?_ | (conv in hold _=>simp (disch:=omega) only [go_sem])|refine Stp.go ?_|(with_reducible first|refine it_pos rfl ?_|refine it_neg (by decide) ?_|refine st_nil rfl ?_|refine s_op ?_ ?_|exact trivial)|((with_reducible first|refine dw_reg0 ?_|refine dw_regB ?_);(conv=>arg 3;whnf))|(refine Spl.go (fun hq he=>?_) (fun hq he=>?_)<;>first|(exfalso;clear hq;omega)|((try first|(conv=>arg 8;simp only [hq])|(conv=>arg 4;simp only [hq]));clear hq))|((with_reducible first|refine c_split (fun hq=>?_) (fun hq=>?_)|refine q_split (fun hq=>?_) (fun hq=>?_))<;>(try first|(conv=>arg 8;simp only [hq])|(conv=>arg 4;simp only [hq])))|(with_reducible refine fin_0 ?_ (by first|rfl|(conv=>lhs;simp only [go_sem])) ?_)|exact Sub.refl _|omega)
  | cons x r=>
   rw [List.length_cons] at h9
   have hlm : ((x :: r).map eD).length = r.length + 1:=by rw [List.length_map,List.length_cons]
   have hg0 : ((x :: r).map eD)[0]? = some (eD x):=rfl
   have hdr : ((x :: r).map eD).drop 1 = r.map eD:=rfl
   have hve:=implValidExpr_ok (cn (x :: r)) 6
   suffices hh : ∀ q : E,(eOk (cn (x :: r)) 6 8 → q = cn (x :: r)) → (¬ eOk (cn (x :: r)) 6 8 → q = zeE) → Does Try.prog 20 [] [.sl 5 ((x :: r).map eD)] (eD q) [] from
    hh _ (fun h=>cnV_t (by rw [List.length_cons]; exact h9) h) (fun h=>cnV_f (fun h'=>h h'.2))
   intro q hq1 hq2
   obtain ⟨D0,hD0⟩ : ∃ D0,D0 = (x :: r).map eD:=⟨_,rfl⟩
   rw [← hD0] at hlm hg0 hdr ⊢
   have hxe:=eD_eq x
   have htk : D0.take (r.length + 1) = D0:=List.take_of_length_le (by omega)
   have hlen1 : ((r.length : Int) + 1 == 0) = false:=by rw [beq_eq_false_iff_ne]; omega
   have htn : ((r.length : Int) + 1).toNat = r.length + 1:=by omega
   have hrl : (r.map eD).length = r.length:=List.length_map _
   refine does0 c_Z21 mixed (Nat.le_of_ble_eq_true rfl) ?_
   conv=>arg 3; whnf
   repeat' (first|with_reducible refine acc_none ?_ | (conv in hold _=>simp (disch:=omega) only [go_sem,hlm,hg0,hdr,hlen1,htk,htn,hrl])|refine Stp.go ?_|(with_reducible first|refine it_pos rfl ?_|refine it_neg (by decide) ?_|refine st_nil rfl ?_|refine s_op ?_ ?_|exact trivial)|((with_reducible first|refine dw_reg0 ?_|refine dw_regB ?_);(conv=>arg 3;whnf))|(refine Spl.go (fun hq he=>?_) (fun hq he=>?_)<;>first|(exfalso;clear hq;omega)|((try first|(conv=>arg 8;simp only [hq])|(conv=>arg 4;simp only [hq]));clear hq))|((with_reducible first|refine c_split (fun hq=>?_) (fun hq=>?_)|refine q_split (fun hq=>?_) (fun hq=>?_))<;>(try first|(conv=>arg 8;simp only [hq])|(conv=>arg 4;simp only [hq])))|(with_reducible refine fin_0 ?_ (by first|rfl|(conv=>lhs;simp only [go_sem,hlm,hg0,hdr,hlen1,htk,htn,hrl])) ?_)|exact Sub.refl _|omega)
   refine dw_for (c:=2) (l:=fun j=>[(2,.ref 1000000 0),(3,.ref 1000001 0),(19,.sl 5 (r.map eD)),(20,I r.length),(21,I j),(1000000,.obj [I 0,I 0,Bo false,I 0,.nul]),(1000001,.obj [I ((r.take j).foldl cnStep x).k,I ((r.take j).foldl cnStep x).c,Bo ((r.take j).foldl cnStep x).v.b,I ((r.take j).foldl cnStep x).v.n,.sl 5 (((r.take j).foldl cnStep x).ks.map eD)])]) r.length (fun _=>True) 0 trivial (Wk.list [2000002,2000003] rfl rfl ?_) (fun j hj _=>?_) (Nat.zero_le _)
   ·repeat' (first|(conv in hold _=>simp (disch:=omega) only [go_sem,hrl])|exact trivial|exact Sub.refl _|omega)
    (repeat' apply And.intro) <;> rfl
   ·rcases at_or_end hj with ⟨y,hy,hlt⟩ | rfl
    ·have hnx : (r.take (j + 1)).foldl cnStep x = .mk 8 0 ⟨false,0⟩ [(r.take j).foldl cnStep x,y]:=by rw [take_next hy,List.foldl_append]; rfl
     repeat' (first|with_reducible refine acc_none ?_ | (conv in hold _=>simp (disch:=omega) only [go_sem,List.getElem?_map,hy,Option.map_some,hrl])|refine Stp.go ?_|(with_reducible first|refine it_pos rfl ?_|refine it_neg (by decide) ?_|refine st_nil rfl ?_|refine s_op ?_ ?_|exact trivial)|((with_reducible first|refine dw_reg0 ?_|refine dw_regB ?_);(conv=>arg 3;whnf))|(refine Spl.go (fun hq he=>?_) (fun hq he=>?_)<;>first|(exfalso;clear hq;omega)|((try first|(conv=>arg 8;simp only [hq])|(conv=>arg 4;simp only [hq]));clear hq))|((with_reducible first|refine c_split (fun hq=>?_) (fun hq=>?_)|refine q_split (fun hq=>?_) (fun hq=>?_))<;>(try first|(conv=>arg 8;simp only [hq])|(conv=>arg 4;simp only [hq])))|(with_reducible refine fin_0 ?_ (by first|rfl|(conv=>lhs;simp only [go_sem,List.getElem?_map,hy,Option.map_some,hrl])) ?_)|exact Sub.refl _|omega)
     refine ⟨hlt,trivial,Wk.list [1000000,1000001] rfl rfl ?_⟩
     repeat' (first|(conv in hold _=>simp (disch:=omega) only [go_sem,hnx])|exact trivial|exact Sub.refl _|omega)
    ·have e1 : (r.take r.length).foldl cnStep x = cn (x :: r):=by rw [List.take_length]; rfl
     by_cases hok : eOk (cn (x :: r)) 6 8
     ·have hsm:=esz_small _ 8 hok (by decide)
      have hcl:=cloneExpr_ok (cn (x :: r)) (by omega)
      rw [hq1 hok]
      rw [decide_eq_true ⟨by decide,hok⟩] at hve
      repeat' (first|with_reducible refine acc_none ?_ | (conv in hold _=>simp (disch:=omega) only [go_sem,e1])|refine Stp.go ?_|(with_reducible first|refine it_pos rfl ?_|refine it_neg (by decide) ?_|refine st_nil rfl ?_|refine s_op ?_ ?_|exact trivial)|((with_reducible first|refine dw_reg0 ?_|refine dw_regB ?_);(conv=>arg 3;whnf))|(refine Spl.go (fun hq he=>?_) (fun hq he=>?_)<;>first|(exfalso;clear hq;omega)|((try first|(conv=>arg 8;simp only [hq])|(conv=>arg 4;simp only [hq]));clear hq))|((with_reducible first|refine c_split (fun hq=>?_) (fun hq=>?_)|refine q_split (fun hq=>?_) (fun hq=>?_))<;>(try first|(conv=>arg 8;simp only [hq])|(conv=>arg 4;simp only [hq])))|(with_reducible refine fin_0 ?_ (by first|rfl|(conv=>lhs;simp only [go_sem,e1])) ?_)|exact Sub.refl _|omega)
      refine c_doesE (hve) ?_ ?_ ?_
      ·((try (conv=>rhs;simp (disch:=omega) only [go_sem])); try rfl)
      ·first|rfl|(conv=>lhs;simp only [go_sem])
      repeat' (first|with_reducible refine acc_none ?_ | (conv in hold _=>simp (disch:=omega) only [go_sem])|refine Stp.go ?_|(with_reducible first|refine it_pos rfl ?_|refine it_neg (by decide) ?_|refine st_nil rfl ?_|refine s_op ?_ ?_|exact trivial)|((with_reducible first|refine dw_reg0 ?_|refine dw_regB ?_);(conv=>arg 3;whnf))|(refine Spl.go (fun hq he=>?_) (fun hq he=>?_)<;>first|(exfalso;clear hq;omega)|((try first|(conv=>arg 8;simp only [hq])|(conv=>arg 4;simp only [hq]));clear hq))|((with_reducible first|refine c_split (fun hq=>?_) (fun hq=>?_)|refine q_split (fun hq=>?_) (fun hq=>?_))<;>(try first|(conv=>arg 8;simp only [hq])|(conv=>arg 4;simp only [hq])))|(with_reducible refine fin_0 ?_ (by first|rfl|(conv=>lhs;simp only [go_sem])) ?_)|exact Sub.refl _|omega)
      refine c_doesE (hcl) ?_ ?_ ?_
      ·((try (conv=>rhs;simp (disch:=omega) only [go_sem])); try rfl)
      ·first|rfl|(conv=>lhs;simp only [go_sem])
      repeat' (first|with_reducible refine acc_none ?_ | (conv in hold _=>simp (disch:=omega) only [go_sem])|refine Stp.go ?_|(with_reducible first|refine it_pos rfl ?_|refine it_neg (by decide) ?_|refine st_nil rfl ?_|refine s_op ?_ ?_|exact trivial)|((with_reducible first|refine dw_reg0 ?_|refine dw_regB ?_);(conv=>arg 3;whnf))|(refine Spl.go (fun hq he=>?_) (fun hq he=>?_)<;>first|(exfalso;clear hq;omega)|((try first|(conv=>arg 8;simp only [hq])|(conv=>arg 4;simp only [hq]));clear hq))|((with_reducible first|refine c_split (fun hq=>?_) (fun hq=>?_)|refine q_split (fun hq=>?_) (fun hq=>?_))<;>(try first|(conv=>arg 8;simp only [hq])|(conv=>arg 4;simp only [hq])))|(with_reducible refine fin_0 ?_ (by first|rfl|(conv=>lhs;simp only [go_sem])) ?_)|exact Sub.refl _|omega)
     ·rw [hq2 hok]
      rw [decide_eq_false (fun h=>hok h.2)] at hve
      repeat' (first|with_reducible refine acc_none ?_ | (conv in hold _=>simp (disch:=omega) only [go_sem,e1])|refine Stp.go ?_|(with_reducible first|refine it_pos rfl ?_|refine it_neg (by decide) ?_|refine st_nil rfl ?_|refine s_op ?_ ?_|exact trivial)|((with_reducible first|refine dw_reg0 ?_|refine dw_regB ?_);(conv=>arg 3;whnf))|(refine Spl.go (fun hq he=>?_) (fun hq he=>?_)<;>first|(exfalso;clear hq;omega)|((try first|(conv=>arg 8;simp only [hq])|(conv=>arg 4;simp only [hq]));clear hq))|((with_reducible first|refine c_split (fun hq=>?_) (fun hq=>?_)|refine q_split (fun hq=>?_) (fun hq=>?_))<;>(try first|(conv=>arg 8;simp only [hq])|(conv=>arg 4;simp only [hq])))|(with_reducible refine fin_0 ?_ (by first|rfl|(conv=>lhs;simp only [go_sem,e1])) ?_)|exact Sub.refl _|omega)
      refine c_doesE (hve) ?_ ?_ ?_
      ·((try (conv=>rhs;simp (disch:=omega) only [go_sem,zeD_pur])); try rfl)
      ·first|rfl|(conv=>lhs;simp only [go_sem,zeD_pur])
      repeat' (first|with_reducible refine acc_none ?_ | (conv in hold _=>simp (disch:=omega) only [go_sem,zeD_pur])|refine Stp.go ?_|(with_reducible first|refine it_pos rfl ?_|refine it_neg (by decide) ?_|refine st_nil rfl ?_|refine s_op ?_ ?_|exact trivial)|((with_reducible first|refine dw_reg0 ?_|refine dw_regB ?_);(conv=>arg 3;whnf))|(refine Spl.go (fun hq he=>?_) (fun hq he=>?_)<;>first|(exfalso;clear hq;omega)|((try first|(conv=>arg 8;simp only [hq])|(conv=>arg 4;simp only [hq]));clear hq))|((with_reducible first|refine c_split (fun hq=>?_) (fun hq=>?_)|refine q_split (fun hq=>?_) (fun hq=>?_))<;>(try first|(conv=>arg 8;simp only [hq])|(conv=>arg 4;simp only [hq])))|(with_reducible refine fin_0 ?_ (by first|rfl|(conv=>lhs;simp only [go_sem,zeD_pur])) ?_)|exact Sub.refl _|omega)
      exact ze_sub
 ·rw [cnV_f (fun h=>h9 h.1)]
  refine does0 c_Z21 mixed (Nat.le_of_ble_eq_true rfl) ?_
  conv=>arg 3; whnf
  repeat' (first|with_reducible refine acc_none ?_ | (conv in hold _=>simp (disch:=omega) only [go_sem,List.length_map,zeD_pur])|refine Stp.go ?_|(with_reducible first|refine it_pos rfl ?_|refine it_neg (by decide) ?_|refine st_nil rfl ?_|refine s_op ?_ ?_|exact trivial)|((with_reducible first|refine dw_reg0 ?_|refine dw_regB ?_);(conv=>arg 3;whnf))|(refine Spl.go (fun hq he=>?_) (fun hq he=>?_)<;>first|(exfalso;clear hq;omega)|((try first|(conv=>arg 8;simp only [hq])|(conv=>arg 4;simp only [hq]));clear hq))|((with_reducible first|refine c_split (fun hq=>?_) (fun hq=>?_)|refine q_split (fun hq=>?_) (fun hq=>?_))<;>(try first|(conv=>arg 8;simp only [hq])|(conv=>arg 4;simp only [hq])))|(with_reducible refine fin_0 ?_ (by first|rfl|(conv=>lhs;simp only [go_sem,List.length_map,zeD_pur])) ?_)|exact Sub.refl _|omega)
  exact ze_sub
theorem constant1_ok (v : V) : Does Try.prog 50 [] [vD v] (eD (.mk 2 0 v [])) []:=by
 refine does0 c_Z19 mixed (Nat.le_of_ble_eq_true rfl) ?_
 conv=>arg 3; whnf
 repeat' (first|with_reducible refine acc_none ?_ | (conv in hold _=>simp (disch:=omega) only [go_sem])|refine Stp.go ?_|(with_reducible first|refine it_pos rfl ?_|refine it_neg (by decide) ?_|refine st_nil rfl ?_|refine s_op ?_ ?_|exact trivial)|((with_reducible first|refine dw_reg0 ?_|refine dw_regB ?_);(conv=>arg 3;whnf))|(refine Spl.go (fun hq he=>?_) (fun hq he=>?_)<;>first|(exfalso;clear hq;omega)|((try first|(conv=>arg 8;simp only [hq])|(conv=>arg 4;simp only [hq]));clear hq))|((with_reducible first|refine c_split (fun hq=>?_) (fun hq=>?_)|refine q_split (fun hq=>?_) (fun hq=>?_))<;>(try first|(conv=>arg 8;simp only [hq])|(conv=>arg 4;simp only [hq])))|(with_reducible refine fin_0 ?_ (by first|rfl|(conv=>lhs;simp only [go_sem])) ?_)|exact Sub.refl _|omega)
 exact Sub.agg ⟨Sub.refl _,Sub.refl _,Sub.refl _,Sub.refl _,Sub.nul 5,trivial⟩
theorem conjoin_ok (l : List E) (hl : l.length ≤ 1000) (hs : ∀ x,x ∈ l → esz x < 1000000) : Does Try.prog 37 [] [.sl 5 (l.map eD)] (eD (cn l)) []:=by
 cases l with
 | nil=>
  have hk:=constant1_ok ⟨false,1⟩
  refine does0 c_Z28 mixed (Nat.le_of_ble_eq_true rfl) ?_
  conv=>arg 3; whnf
  repeat' (first|with_reducible refine acc_none ?_ | (conv in hold _=>simp (disch:=omega) only [go_sem])|refine Stp.go ?_|(with_reducible first|refine it_pos rfl ?_|refine it_neg (by decide) ?_|refine st_nil rfl ?_|refine s_op ?_ ?_|exact trivial)|((with_reducible first|refine dw_reg0 ?_|refine dw_regB ?_);(conv=>arg 3;whnf))|(refine Spl.go (fun hq he=>?_) (fun hq he=>?_)<;>first|(exfalso;clear hq;omega)|((try first|(conv=>arg 8;simp only [hq])|(conv=>arg 4;simp only [hq]));clear hq))|((with_reducible first|refine c_split (fun hq=>?_) (fun hq=>?_)|refine q_split (fun hq=>?_) (fun hq=>?_))<;>(try first|(conv=>arg 8;simp only [hq])|(conv=>arg 4;simp only [hq])))|(with_reducible refine fin_0 ?_ (by first|rfl|(conv=>lhs;simp only [go_sem])) ?_)|exact Sub.refl _|omega)
  refine c_doesE (hk) ?_ ?_ ?_
  ·((try (conv=>rhs;simp (disch:=omega) only [go_sem])); try rfl)
  ·first|rfl|(conv=>lhs;simp only [go_sem])
  repeat' (first|with_reducible refine acc_none ?_ | (conv in hold _=>simp (disch:=omega) only [go_sem])|refine Stp.go ?_|(with_reducible first|refine it_pos rfl ?_|refine it_neg (by decide) ?_|refine st_nil rfl ?_|refine s_op ?_ ?_|exact trivial)|((with_reducible first|refine dw_reg0 ?_|refine dw_regB ?_);(conv=>arg 3;whnf))|(refine Spl.go (fun hq he=>?_) (fun hq he=>?_)<;>first|(exfalso;clear hq;omega)|((try first|(conv=>arg 8;simp only [hq])|(conv=>arg 4;simp only [hq]));clear hq))|((with_reducible first|refine c_split (fun hq=>?_) (fun hq=>?_)|refine q_split (fun hq=>?_) (fun hq=>?_))<;>(try first|(conv=>arg 8;simp only [hq])|(conv=>arg 4;simp only [hq])))|(with_reducible refine fin_0 ?_ (by first|rfl|(conv=>lhs;simp only [go_sem])) ?_)|exact Sub.refl _|omega)
 | cons x r=>
  rw [List.length_cons] at hl
  have hcx:=copyExpr_ok x (hs x (List.mem_cons_self ..))
  have hlm : ((x :: r).map eD).length = r.length + 1:=by rw [List.length_map,List.length_cons]
  have hg0 : ((x :: r).map eD)[0]? = some (eD x):=rfl
  have hgj : ∀ j : Nat,((x :: r).map eD)[j + 1]? = r[j]?.map eD:=fun j=>by rw [List.map_cons,List.getElem?_cons_succ,List.getElem?_map]
  have hlen1 : ((r.length : Int) + 1 == 0) = false:=by rw [beq_eq_false_iff_ne]; omega
  obtain ⟨D0,hD0⟩ : ∃ D0,D0 = (x :: r).map eD:=⟨_,rfl⟩
  rw [← hD0] at hlm hg0 hgj ⊢
  refine does0 c_Z28 mixed (Nat.le_of_ble_eq_true rfl) ?_
  conv=>arg 3; whnf
  repeat' (first|with_reducible refine acc_none ?_ | (conv in hold _=>simp (disch:=omega) only [go_sem,hlm,hg0,hlen1])|refine Stp.go ?_|(with_reducible first|refine it_pos rfl ?_|refine it_neg (by decide) ?_|refine st_nil rfl ?_|refine s_op ?_ ?_|exact trivial)|((with_reducible first|refine dw_reg0 ?_|refine dw_regB ?_);(conv=>arg 3;whnf))|(refine Spl.go (fun hq he=>?_) (fun hq he=>?_)<;>first|(exfalso;clear hq;omega)|((try first|(conv=>arg 8;simp only [hq])|(conv=>arg 4;simp only [hq]));clear hq))|((with_reducible first|refine c_split (fun hq=>?_) (fun hq=>?_)|refine q_split (fun hq=>?_) (fun hq=>?_))<;>(try first|(conv=>arg 8;simp only [hq])|(conv=>arg 4;simp only [hq])))|(with_reducible refine fin_0 ?_ (by first|rfl|(conv=>lhs;simp only [go_sem,hlm,hg0,hlen1])) ?_)|exact Sub.refl _|omega)
  refine c_doesE (hcx) ?_ ?_ ?_
  ·((try (conv=>rhs;simp (disch:=omega) only [go_sem,hlm,hg0,hlen1])); try rfl)
  ·first|rfl|(conv=>lhs;simp only [go_sem,hlm,hg0,hlen1])
  repeat' (first|with_reducible refine acc_none ?_ | (conv in hold _=>simp (disch:=omega) only [go_sem,hlm,hg0,hlen1])|refine Stp.go ?_|(with_reducible first|refine it_pos rfl ?_|refine it_neg (by decide) ?_|refine st_nil rfl ?_|refine s_op ?_ ?_|exact trivial)|((with_reducible first|refine dw_reg0 ?_|refine dw_regB ?_);(conv=>arg 3;whnf))|(refine Spl.go (fun hq he=>?_) (fun hq he=>?_)<;>first|(exfalso;clear hq;omega)|((try first|(conv=>arg 8;simp only [hq])|(conv=>arg 4;simp only [hq]));clear hq))|((with_reducible first|refine c_split (fun hq=>?_) (fun hq=>?_)|refine q_split (fun hq=>?_) (fun hq=>?_))<;>(try first|(conv=>arg 8;simp only [hq])|(conv=>arg 4;simp only [hq])))|(with_reducible refine fin_0 ?_ (by first|rfl|(conv=>lhs;simp only [go_sem,hlm,hg0,hlen1])) ?_)|exact Sub.refl _|omega)
  refine dw_for (c:=2) (l:=fun j=>[(0,.sl 5 D0),(2,.ref 1000000 0),(3,.ref 1000001 0),(4,I ((j : Int) + 1)),(1000000,.obj [I 0,I 0,Bo false,I 0,.nul]),(1000001,.obj [I ((r.take j).foldl cnStep x).k,I ((r.take j).foldl cnStep x).c,Bo ((r.take j).foldl cnStep x).v.b,I ((r.take j).foldl cnStep x).v.n,.sl 5 (((r.take j).foldl cnStep x).ks.map eD)])]) r.length (fun _=>True) 0 trivial (Wk.list [2000002,2000003] rfl rfl ?_) (fun j hj _=>?_) (Nat.zero_le _)
  ·repeat' (first|(conv in hold _=>simp (disch:=omega) only [go_sem])|exact trivial|exact Sub.refl _|omega)
   (repeat' apply And.intro) <;> rfl
  ·have htn : ((j : Int) + 1).toNat = j + 1:=by omega
   rcases at_or_end hj with ⟨y,hy,hlt⟩ | rfl
   ·have hcy:=copyExpr_ok y (hs y (List.mem_cons_of_mem _ (List.mem_of_getElem? hy)))
    have hnx : (r.take (j + 1)).foldl cnStep x = .mk 8 0 ⟨false,0⟩ [(r.take j).foldl cnStep x,y]:=by rw [take_next hy,List.foldl_append]; rfl
    repeat' (first|with_reducible refine acc_none ?_ | (conv in hold _=>simp (disch:=omega) only [go_sem,hlm,hgj,htn,hy,Option.map_some])|refine Stp.go ?_|(with_reducible first|refine it_pos rfl ?_|refine it_neg (by decide) ?_|refine st_nil rfl ?_|refine s_op ?_ ?_|exact trivial)|((with_reducible first|refine dw_reg0 ?_|refine dw_regB ?_);(conv=>arg 3;whnf))|(refine Spl.go (fun hq he=>?_) (fun hq he=>?_)<;>first|(exfalso;clear hq;omega)|((try first|(conv=>arg 8;simp only [hq])|(conv=>arg 4;simp only [hq]));clear hq))|((with_reducible first|refine c_split (fun hq=>?_) (fun hq=>?_)|refine q_split (fun hq=>?_) (fun hq=>?_))<;>(try first|(conv=>arg 8;simp only [hq])|(conv=>arg 4;simp only [hq])))|(with_reducible refine fin_0 ?_ (by first|rfl|(conv=>lhs;simp only [go_sem,hlm,hgj,htn,hy,Option.map_some])) ?_)|exact Sub.refl _|omega)
    refine c_doesE (hcy) ?_ ?_ ?_
    ·((try (conv=>rhs;simp (disch:=omega) only [go_sem,hlm,hgj,htn,hy,Option.map_some])); try rfl)
    ·first|rfl|(conv=>lhs;simp only [go_sem,hlm,hgj,htn,hy,Option.map_some])
    repeat' (first|with_reducible refine acc_none ?_ | (conv in hold _=>simp (disch:=omega) only [go_sem,hlm,hgj,htn,hy,Option.map_some])|refine Stp.go ?_|(with_reducible first|refine it_pos rfl ?_|refine it_neg (by decide) ?_|refine st_nil rfl ?_|refine s_op ?_ ?_|exact trivial)|((with_reducible first|refine dw_reg0 ?_|refine dw_regB ?_);(conv=>arg 3;whnf))|(refine Spl.go (fun hq he=>?_) (fun hq he=>?_)<;>first|(exfalso;clear hq;omega)|((try first|(conv=>arg 8;simp only [hq])|(conv=>arg 4;simp only [hq]));clear hq))|((with_reducible first|refine c_split (fun hq=>?_) (fun hq=>?_)|refine q_split (fun hq=>?_) (fun hq=>?_))<;>(try first|(conv=>arg 8;simp only [hq])|(conv=>arg 4;simp only [hq])))|(with_reducible refine fin_0 ?_ (by first|rfl|(conv=>lhs;simp only [go_sem,hlm,hgj,htn,hy,Option.map_some])) ?_)|exact Sub.refl _|omega)
    refine ⟨hlt,trivial,Wk.list [1000000,1000001] rfl rfl ?_⟩
    repeat' (first|(conv in hold _=>simp (disch:=omega) only [go_sem,hnx])|exact trivial|exact Sub.refl _|omega)
   ·have e1 : (r.take r.length).foldl cnStep x = cn (x :: r):=by rw [List.take_length]; rfl
    repeat' (first|with_reducible refine acc_none ?_ | (conv in hold _=>simp (disch:=omega) only [go_sem,e1,hlm])|refine Stp.go ?_|(with_reducible first|refine it_pos rfl ?_|refine it_neg (by decide) ?_|refine st_nil rfl ?_|refine s_op ?_ ?_|exact trivial)|((with_reducible first|refine dw_reg0 ?_|refine dw_regB ?_);(conv=>arg 3;whnf))|(refine Spl.go (fun hq he=>?_) (fun hq he=>?_)<;>first|(exfalso;clear hq;omega)|((try first|(conv=>arg 8;simp only [hq])|(conv=>arg 4;simp only [hq]));clear hq))|((with_reducible first|refine c_split (fun hq=>?_) (fun hq=>?_)|refine q_split (fun hq=>?_) (fun hq=>?_))<;>(try first|(conv=>arg 8;simp only [hq])|(conv=>arg 4;simp only [hq])))|(with_reducible refine fin_0 ?_ (by first|rfl|(conv=>lhs;simp only [go_sem,e1,hlm])) ?_)|exact Sub.refl _|omega)
theorem Conjoin_spec (l : List E) (hl : l.length ≤ 1048576) : Does Try.prog 18 [] [.sl 5 (l.map eD)] (eD (cnV l)) []:=by
 suffices hh : ∀ q : E,((l.length ≤ 9 ∧ eOk (cn l) 6 8) → q = cn l) → (¬ (l.length ≤ 9 ∧ eOk (cn l) 6 8) → q = zeE) → Does Try.prog 18 [] [.sl 5 (l.map eD)] (eD q) [] from
  hh _ (fun h=>cnV_t h.1 h.2) (fun h=>cnV_f h)
 intro q hq1 hq2
 refine does0 c_Z27 mixed (Nat.le_of_ble_eq_true rfl) ?_
 conv=>arg 3; whnf
 repeat' (first|with_reducible refine acc_none ?_ | (conv in hold _=>simp (disch:=omega) only [go_sem])|refine Stp.go ?_|(with_reducible first|refine it_pos rfl ?_|refine it_neg (by decide) ?_|refine st_nil rfl ?_|refine s_op ?_ ?_|exact trivial)|((with_reducible first|refine dw_reg0 ?_|refine dw_regB ?_);(conv=>arg 3;whnf))|(refine Spl.go (fun hq he=>?_) (fun hq he=>?_)<;>first|(exfalso;clear hq;omega)|((try first|(conv=>arg 8;simp only [hq])|(conv=>arg 4;simp only [hq]));clear hq))|((with_reducible first|refine c_split (fun hq=>?_) (fun hq=>?_)|refine q_split (fun hq=>?_) (fun hq=>?_))<;>(try first|(conv=>arg 8;simp only [hq])|(conv=>arg 4;simp only [hq])))|(with_reducible refine fin_0 ?_ (by first|rfl|(conv=>lhs;simp only [go_sem])) ?_)|exact Sub.refl _|omega)
 refine dw_for (c:=1) (l:=fun i=>[(0,.sl 5 (l.map eD)),(2,.ref 1000000 0),(3,I i),(1000000,.obj [I 0,I 0,Bo false,I 0,.nul])]) l.length (fun i=>∀ (j : Nat) (b : E),j < i → l[j]? = some b → eOk b 6 8) 0 (by omega) (Wk.list [2000002] rfl rfl ?_) (fun i hi hJ=>?_) (Nat.zero_le _)
 ·repeat' (first|(conv in hold _=>simp (disch:=omega) only [go_sem])|exact trivial|exact Sub.refl _|omega)
  (repeat' apply And.intro) <;> rfl
 ·rcases at_or_end hi with ⟨x,hx,hlt1⟩ | rfl
  ·have hvx:=ValidExpr_any x 6
   by_cases hxo : eOk x 6 8
   ·rw [decide_eq_true ⟨by decide,hxo⟩] at hvx
    repeat' (first|with_reducible refine acc_none ?_ | (conv in hold _=>simp (disch:=omega) only [go_sem,List.getElem?_map,hx,Option.map_some,List.length_map])|refine Stp.go ?_|(with_reducible first|refine it_pos rfl ?_|refine it_neg (by decide) ?_|refine st_nil rfl ?_|refine s_op ?_ ?_|exact trivial)|((with_reducible first|refine dw_reg0 ?_|refine dw_regB ?_);(conv=>arg 3;whnf))|(refine Spl.go (fun hq he=>?_) (fun hq he=>?_)<;>first|(exfalso;clear hq;omega)|((try first|(conv=>arg 8;simp only [hq])|(conv=>arg 4;simp only [hq]));clear hq))|((with_reducible first|refine c_split (fun hq=>?_) (fun hq=>?_)|refine q_split (fun hq=>?_) (fun hq=>?_))<;>(try first|(conv=>arg 8;simp only [hq])|(conv=>arg 4;simp only [hq])))|(with_reducible refine fin_0 ?_ (by first|rfl|(conv=>lhs;simp only [go_sem,List.getElem?_map,hx,Option.map_some,List.length_map])) ?_)|exact Sub.refl _|omega)
    refine c_doesE (hvx) ?_ ?_ ?_
    ·((try (conv=>rhs;simp (disch:=omega) only [go_sem])); try rfl)
    ·first|rfl|(conv=>lhs;simp only [go_sem])
    repeat' (first|with_reducible refine acc_none ?_ | (conv in hold _=>simp (disch:=omega) only [go_sem])|refine Stp.go ?_|(with_reducible first|refine it_pos rfl ?_|refine it_neg (by decide) ?_|refine st_nil rfl ?_|refine s_op ?_ ?_|exact trivial)|((with_reducible first|refine dw_reg0 ?_|refine dw_regB ?_);(conv=>arg 3;whnf))|(refine Spl.go (fun hq he=>?_) (fun hq he=>?_)<;>first|(exfalso;clear hq;omega)|((try first|(conv=>arg 8;simp only [hq])|(conv=>arg 4;simp only [hq]));clear hq))|((with_reducible first|refine c_split (fun hq=>?_) (fun hq=>?_)|refine q_split (fun hq=>?_) (fun hq=>?_))<;>(try first|(conv=>arg 8;simp only [hq])|(conv=>arg 4;simp only [hq])))|(with_reducible refine fin_0 ?_ (by first|rfl|(conv=>lhs;simp only [go_sem])) ?_)|exact Sub.refl _|omega)
    refine ⟨hlt1,upto_next (p:=fun b=>eOk b 6 8) hx hJ hxo,Wk.list [1000000] rfl rfl ?_⟩
    repeat' (first|(conv in hold _=>simp (disch:=omega) only [go_sem])|exact trivial|exact Sub.refl _|omega)
   ·rw [decide_eq_false (fun h=>hxo h.2)] at hvx
    rw [hq2 (fun h=>hxo (cn_parts h.2 x (List.mem_of_getElem? hx)))]
    repeat' (first|with_reducible refine acc_none ?_ | (conv in hold _=>simp (disch:=omega) only [go_sem,List.getElem?_map,hx,Option.map_some,List.length_map])|refine Stp.go ?_|(with_reducible first|refine it_pos rfl ?_|refine it_neg (by decide) ?_|refine st_nil rfl ?_|refine s_op ?_ ?_|exact trivial)|((with_reducible first|refine dw_reg0 ?_|refine dw_regB ?_);(conv=>arg 3;whnf))|(refine Spl.go (fun hq he=>?_) (fun hq he=>?_)<;>first|(exfalso;clear hq;omega)|((try first|(conv=>arg 8;simp only [hq])|(conv=>arg 4;simp only [hq]));clear hq))|((with_reducible first|refine c_split (fun hq=>?_) (fun hq=>?_)|refine q_split (fun hq=>?_) (fun hq=>?_))<;>(try first|(conv=>arg 8;simp only [hq])|(conv=>arg 4;simp only [hq])))|(with_reducible refine fin_0 ?_ (by first|rfl|(conv=>lhs;simp only [go_sem,List.getElem?_map,hx,Option.map_some,List.length_map])) ?_)|exact Sub.refl _|omega)
    refine c_doesE (hvx) ?_ ?_ ?_
    ·((try (conv=>rhs;simp (disch:=omega) only [go_sem,zeD_pur])); try rfl)
    ·first|rfl|(conv=>lhs;simp only [go_sem,zeD_pur])
    repeat' (first|with_reducible refine acc_none ?_ | (conv in hold _=>simp (disch:=omega) only [go_sem,zeD_pur])|refine Stp.go ?_|(with_reducible first|refine it_pos rfl ?_|refine it_neg (by decide) ?_|refine st_nil rfl ?_|refine s_op ?_ ?_|exact trivial)|((with_reducible first|refine dw_reg0 ?_|refine dw_regB ?_);(conv=>arg 3;whnf))|(refine Spl.go (fun hq he=>?_) (fun hq he=>?_)<;>first|(exfalso;clear hq;omega)|((try first|(conv=>arg 8;simp only [hq])|(conv=>arg 4;simp only [hq]));clear hq))|((with_reducible first|refine c_split (fun hq=>?_) (fun hq=>?_)|refine q_split (fun hq=>?_) (fun hq=>?_))<;>(try first|(conv=>arg 8;simp only [hq])|(conv=>arg 4;simp only [hq])))|(with_reducible refine fin_0 ?_ (by first|rfl|(conv=>lhs;simp only [go_sem,zeD_pur])) ?_)|exact Sub.refl _|omega)
    exact ze_sub
  ·have hall:=upto_all (p:=fun b=>eOk b 6 8) hJ
   have hsz : ∀ x,x ∈ l → esz x < 1000000:=fun x hx=>by have:=esz_small x 8 (hall x hx) (by decide); omega
   by_cases h9 : l.length ≤ 9
   ·have hcj:=conjoin_ok l (by omega) hsz
    have hve:=ValidExpr_any (cn l) 6
    by_cases hok : eOk (cn l) 6 8
    ·rw [decide_eq_true ⟨by decide,hok⟩] at hve
     rw [hq1 ⟨h9,hok⟩]
     repeat' (first|with_reducible refine acc_none ?_ | (conv in hold _=>simp (disch:=omega) only [go_sem,List.length_map])|refine Stp.go ?_|(with_reducible first|refine it_pos rfl ?_|refine it_neg (by decide) ?_|refine st_nil rfl ?_|refine s_op ?_ ?_|exact trivial)|((with_reducible first|refine dw_reg0 ?_|refine dw_regB ?_);(conv=>arg 3;whnf))|(refine Spl.go (fun hq he=>?_) (fun hq he=>?_)<;>first|(exfalso;clear hq;omega)|((try first|(conv=>arg 8;simp only [hq])|(conv=>arg 4;simp only [hq]));clear hq))|((with_reducible first|refine c_split (fun hq=>?_) (fun hq=>?_)|refine q_split (fun hq=>?_) (fun hq=>?_))<;>(try first|(conv=>arg 8;simp only [hq])|(conv=>arg 4;simp only [hq])))|(with_reducible refine fin_0 ?_ (by first|rfl|(conv=>lhs;simp only [go_sem,List.length_map])) ?_)|exact Sub.refl _|omega)
     refine c_doesE (hcj) ?_ ?_ ?_
     ·((try (conv=>rhs;simp (disch:=omega) only [go_sem])); try rfl)
     ·first|rfl|(conv=>lhs;simp only [go_sem])
     repeat' (first|with_reducible refine acc_none ?_ | (conv in hold _=>simp (disch:=omega) only [go_sem])|refine Stp.go ?_|(with_reducible first|refine it_pos rfl ?_|refine it_neg (by decide) ?_|refine st_nil rfl ?_|refine s_op ?_ ?_|exact trivial)|((with_reducible first|refine dw_reg0 ?_|refine dw_regB ?_);(conv=>arg 3;whnf))|(refine Spl.go (fun hq he=>?_) (fun hq he=>?_)<;>first|(exfalso;clear hq;omega)|((try first|(conv=>arg 8;simp only [hq])|(conv=>arg 4;simp only [hq]));clear hq))|((with_reducible first|refine c_split (fun hq=>?_) (fun hq=>?_)|refine q_split (fun hq=>?_) (fun hq=>?_))<;>(try first|(conv=>arg 8;simp only [hq])|(conv=>arg 4;simp only [hq])))|(with_reducible refine fin_0 ?_ (by first|rfl|(conv=>lhs;simp only [go_sem])) ?_)|exact Sub.refl _|omega)
     refine c_doesE (hve) ?_ ?_ ?_
     ·((try (conv=>rhs;simp (disch:=omega) only [go_sem])); try rfl)
     ·first|rfl|(conv=>lhs;simp only [go_sem])
     repeat' (first|with_reducible refine acc_none ?_ | (conv in hold _=>simp (disch:=omega) only [go_sem])|refine Stp.go ?_|(with_reducible first|refine it_pos rfl ?_|refine it_neg (by decide) ?_|refine st_nil rfl ?_|refine s_op ?_ ?_|exact trivial)|((with_reducible first|refine dw_reg0 ?_|refine dw_regB ?_);(conv=>arg 3;whnf))|(refine Spl.go (fun hq he=>?_) (fun hq he=>?_)<;>first|(exfalso;clear hq;omega)|((try first|(conv=>arg 8;simp only [hq])|(conv=>arg 4;simp only [hq]));clear hq))|((with_reducible first|refine c_split (fun hq=>?_) (fun hq=>?_)|refine q_split (fun hq=>?_) (fun hq=>?_))<;>(try first|(conv=>arg 8;simp only [hq])|(conv=>arg 4;simp only [hq])))|(with_reducible refine fin_0 ?_ (by first|rfl|(conv=>lhs;simp only [go_sem])) ?_)|exact Sub.refl _|omega)
    ·rw [decide_eq_false (fun h=>hok h.2)] at hve
     rw [hq2 (fun h=>hok h.2)]
     repeat' (first|with_reducible refine acc_none ?_ | (conv in hold _=>simp (disch:=omega) only [go_sem,List.length_map])|refine Stp.go ?_|(with_reducible first|refine it_pos rfl ?_|refine it_neg (by decide) ?_|refine st_nil rfl ?_|refine s_op ?_ ?_|exact trivial)|((with_reducible first|refine dw_reg0 ?_|refine dw_regB ?_);(conv=>arg 3;whnf))|(refine Spl.go (fun hq he=>?_) (fun hq he=>?_)<;>first|(exfalso;clear hq;omega)|((try first|(conv=>arg 8;simp only [hq])|(conv=>arg 4;simp only [hq]));clear hq))|((with_reducible first|refine c_split (fun hq=>?_) (fun hq=>?_)|refine q_split (fun hq=>?_) (fun hq=>?_))<;>(try first|(conv=>arg 8;simp only [hq])|(conv=>arg 4;simp only [hq])))|(with_reducible refine fin_0 ?_ (by first|rfl|(conv=>lhs;simp only [go_sem,List.length_map])) ?_)|exact Sub.refl _|omega)
     refine c_doesE (hcj) ?_ ?_ ?_
     ·((try (conv=>rhs;simp (disch:=omega) only [go_sem])); try rfl)
     ·first|rfl|(conv=>lhs;simp only [go_sem])
     repeat' (first|with_reducible refine acc_none ?_ | (conv in hold _=>simp (disch:=omega) only [go_sem])|refine Stp.go ?_|(with_reducible first|refine it_pos rfl ?_|refine it_neg (by decide) ?_|refine st_nil rfl ?_|refine s_op ?_ ?_|exact trivial)|((with_reducible first|refine dw_reg0 ?_|refine dw_regB ?_);(conv=>arg 3;whnf))|(refine Spl.go (fun hq he=>?_) (fun hq he=>?_)<;>first|(exfalso;clear hq;omega)|((try first|(conv=>arg 8;simp only [hq])|(conv=>arg 4;simp only [hq]));clear hq))|((with_reducible first|refine c_split (fun hq=>?_) (fun hq=>?_)|refine q_split (fun hq=>?_) (fun hq=>?_))<;>(try first|(conv=>arg 8;simp only [hq])|(conv=>arg 4;simp only [hq])))|(with_reducible refine fin_0 ?_ (by first|rfl|(conv=>lhs;simp only [go_sem])) ?_)|exact Sub.refl _|omega)
     refine c_doesE (hve) ?_ ?_ ?_
     ·((try (conv=>rhs;simp (disch:=omega) only [go_sem,zeD_pur])); try rfl)
     ·first|rfl|(conv=>lhs;simp only [go_sem,zeD_pur])
     repeat' (first|with_reducible refine acc_none ?_ | (conv in hold _=>simp (disch:=omega) only [go_sem,zeD_pur])|refine Stp.go ?_|(with_reducible first|refine it_pos rfl ?_|refine it_neg (by decide) ?_|refine st_nil rfl ?_|refine s_op ?_ ?_|exact trivial)|((with_reducible first|refine dw_reg0 ?_|refine dw_regB ?_);(conv=>arg 3;whnf))|(refine Spl.go (fun hq he=>?_) (fun hq he=>?_)<;>first|(exfalso;clear hq;omega)|((try first|(conv=>arg 8;simp only [hq])|(conv=>arg 4;simp only [hq]));clear hq))|((with_reducible first|refine c_split (fun hq=>?_) (fun hq=>?_)|refine q_split (fun hq=>?_) (fun hq=>?_))<;>(try first|(conv=>arg 8;simp only [hq])|(conv=>arg 4;simp only [hq])))|(with_reducible refine fin_0 ?_ (by first|rfl|(conv=>lhs;simp only [go_sem,zeD_pur])) ?_)|exact Sub.refl _|omega)
     exact ze_sub
   ·rw [hq2 (fun h=>h9 h.1)]
    repeat' (first|with_reducible refine acc_none ?_ | (conv in hold _=>simp (disch:=omega) only [go_sem,List.length_map,zeD_pur])|refine Stp.go ?_|(with_reducible first|refine it_pos rfl ?_|refine it_neg (by decide) ?_|refine st_nil rfl ?_|refine s_op ?_ ?_|exact trivial)|((with_reducible first|refine dw_reg0 ?_|refine dw_regB ?_);(conv=>arg 3;whnf))|(refine Spl.go (fun hq he=>?_) (fun hq he=>?_)<;>first|(exfalso;clear hq;omega)|((try first|(conv=>arg 8;simp only [hq])|(conv=>arg 4;simp only [hq]));clear hq))|((with_reducible first|refine c_split (fun hq=>?_) (fun hq=>?_)|refine q_split (fun hq=>?_) (fun hq=>?_))<;>(try first|(conv=>arg 8;simp only [hq])|(conv=>arg 4;simp only [hq])))|(with_reducible refine fin_0 ?_ (by first|rfl|(conv=>lhs;simp only [go_sem,List.length_map,zeD_pur])) ?_)|exact Sub.refl _|omega)
    exact ze_sub
end Go.Proofs.Ytclkehekhdfnnaa
