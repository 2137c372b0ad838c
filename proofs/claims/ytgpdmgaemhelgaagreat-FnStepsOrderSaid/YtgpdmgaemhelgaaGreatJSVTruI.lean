/-
  Columns replaced by expressions, by the model. No condition.
-/
import Derived.Test.YtgpdmgaemhelgaaGreatKSDca
import Derived.Test.YtgpdmgaemhelgaaGreatKSDcd
import Derived.Test.YtgpdmgaemhelgaaGreatJSVRwA
import Derived.Test.YtgpdmgaemhelgaaGreatJSVCpE
import Derived.Test.YtgpdmgaemhelgaaGreatRows
import Derived.Test.YtgpdmgaemhelgaaGreatJSVBox
import Derived.Test.YtgpdmgaemhelgaaGreatJSVYld
import Derived.Test.YtgpdmgaemhelgaaGreatJSDcVWid
import Derived.Test.YtgpdmgaemhelgaaGreatJSVWid
import Derived.Test.YtgpdmgaemhelgaaGreatJSVClC
import Derived.Test.YtgpdmgaemhelgaaGreatJSVCond
set_option maxHeartbeats 4000000
set_option maxRecDepth 100000
set_option linter.unusedVariables false
set_option linter.unusedSimpArgs false
namespace Go.Proofs.YtgpdmgaemhelgaaGreat
open Go.RowKit
theorem substitute_ok (bs : List E) (hb : ∀ b,b ∈ bs → esz b ≤ 800000) : ∀ (e : E) (d : Nat),eOk e bs.length d → Does Tryz.prog 143 [] [eD e,.sl 5 (bs.map eD)] (eD (subE bs e)) []:=by
 refine E.ind (fun e ih d h=>?_)
 have h1:=(eOk_iff e _ d).1 h
 have hn2:=kidsN_le e.k
 have hlen : e.ks.length ≤ 2:=by omega
 by_cases hk : e.k = 1
 ·have hl:=h1.2.2.2
  unfold leafOk at hl
  rw [if_pos hk] at hl
  obtain ⟨b,hbe⟩ : ∃ b,bs[e.c.toNat]? = some b:=⟨_,List.getElem?_eq_getElem (show e.c.toNat < bs.length by omega)⟩
  have hcp:=copyExpr_ok b (by have:=hb b (List.mem_of_getElem? hbe); omega)
  rw [subE_col hk hbe]
  refine does0 c_Z84 mixed (Nat.le_of_ble_eq_true rfl) ?_
  conv=>arg 3; whnf
  repeat' (first|with_reducible refine acc_none ?_ | (conv in hold _=>simp (disch:=omega) only [go_sem,List.getElem?_map,hbe,Option.map_some,List.length_map])|refine Stp.go ?_|(with_reducible first|refine it_pos rfl ?_|refine it_neg (by decide) ?_|refine st_nil rfl ?_|refine s_op ?_ ?_|exact trivial)|((with_reducible first|refine dw_reg0 ?_|refine dw_regB ?_);(conv=>arg 3;whnf))|(refine Spl.go (fun hq he=>?_) (fun hq he=>?_)<;>first|(exfalso;clear hq;omega)|((try first|(conv=>arg 8;simp only [hq])|(conv=>arg 4;simp only [hq]));clear hq))|((with_reducible first|refine c_split (fun hq=>?_) (fun hq=>?_)|refine q_split (fun hq=>?_) (fun hq=>?_))<;>(try first|(conv=>arg 8;simp only [hq])|(conv=>arg 4;simp only [hq])))|(with_reducible refine fin_0 ?_ (by first|rfl|(conv=>lhs;simp only [go_sem,List.getElem?_map,hbe,Option.map_some,List.length_map])) ?_)|exact Sub.refl _|omega)
  refine c_doesE (hcp) ?_ ?_ ?_
  ·((try (conv=>rhs;simp (disch:=omega) only [go_sem])); try rfl)
  ·first|rfl|(conv=>lhs;simp only [go_sem])
  repeat' (first|with_reducible refine acc_none ?_ | (conv in hold _=>simp (disch:=omega) only [go_sem])|refine Stp.go ?_|(with_reducible first|refine it_pos rfl ?_|refine it_neg (by decide) ?_|refine st_nil rfl ?_|refine s_op ?_ ?_|exact trivial)|((with_reducible first|refine dw_reg0 ?_|refine dw_regB ?_);(conv=>arg 3;whnf))|(refine Spl.go (fun hq he=>?_) (fun hq he=>?_)<;>first|(exfalso;clear hq;omega)|((try first|(conv=>arg 8;simp only [hq])|(conv=>arg 4;simp only [hq]));clear hq))|((with_reducible first|refine c_split (fun hq=>?_) (fun hq=>?_)|refine q_split (fun hq=>?_) (fun hq=>?_))<;>(try first|(conv=>arg 8;simp only [hq])|(conv=>arg 4;simp only [hq])))|(with_reducible refine fin_0 ?_ (by first|rfl|(conv=>lhs;simp only [go_sem])) ?_)|exact Sub.refl _|omega)
 ·have hfl:=subL_map bs e.ks
  have hll : (subL bs e.ks).length = e.ks.length:=by rw [hfl,List.length_map]
  rw [subE_no hk]
  refine does0 c_Z84 mixed (Nat.le_of_ble_eq_true rfl) ?_
  conv=>arg 3; whnf
  repeat' (first|with_reducible refine acc_none ?_ | (conv in hold _=>simp (disch:=omega) only [go_sem])|refine Stp.go ?_|(with_reducible first|refine it_pos rfl ?_|refine it_neg (by decide) ?_|refine st_nil rfl ?_|refine s_op ?_ ?_|exact trivial)|((with_reducible first|refine dw_reg0 ?_|refine dw_regB ?_);(conv=>arg 3;whnf))|(refine Spl.go (fun hq he=>?_) (fun hq he=>?_)<;>first|(exfalso;clear hq;omega)|((try first|(conv=>arg 8;simp only [hq])|(conv=>arg 4;simp only [hq]));clear hq))|((with_reducible first|refine c_split (fun hq=>?_) (fun hq=>?_)|refine q_split (fun hq=>?_) (fun hq=>?_))<;>(try first|(conv=>arg 8;simp only [hq])|(conv=>arg 4;simp only [hq])))|(with_reducible refine fin_0 ?_ (by first|rfl|(conv=>lhs;simp only [go_sem])) ?_)|exact Sub.refl _|omega)
  refine dw_for (c:=4) (l:=fun i=>[(1,.sl 5 (bs.map eD)),(2,.ref 1000000 0),(4,.ref 1000001 0),(5,.ref 1000002 0),(6,I i),(1000000,.obj [I e.k,I e.c,Bo e.v.b,I e.v.n,.sl 5 (e.ks.map eD)]),(1000001,.obj [I 0,I 0,Bo false,I 0,.nul]),(1000002,.obj [I e.k,I e.c,Bo e.v.b,I e.v.n,.own 1000003 5 i]),(1000003,.row 5 (((subL bs e.ks).take i).map eD))]) e.ks.length (fun _=>True) 0 trivial ((wk_rowO 2000005 2000040 5 4 (by decide) (by decide) (by decide) rfl rfl rfl).trans (Wk.list [2000002,2000004,2000005,2000040] rfl rfl ?_)) (fun i hi _=>?_) (Nat.zero_le _)
  ·repeat' (first|(conv in hold _=>simp (disch:=omega) only [go_sem])|exact trivial|exact Sub.refl _|omega)
   exact rfl
  ·have hlt:=take_len (vs:=subL bs e.ks) (i:=i) (by omega)
   have hmt:=take_map eD (vs:=subL bs e.ks) (i:=i) (by omega)
   rcases at_or_end hi with ⟨x,hx,hlt1⟩ | rfl
   ·have hix:=ih x (List.mem_of_getElem? hx) (d - 1) (h1.2.2.1 x (List.mem_of_getElem? hx))
    have hfx : (subL bs e.ks)[i]? = some (subE bs x):=by rw [hfl,List.getElem?_map,hx]; rfl
    have hnx:=take_next hfx
    repeat' (first|with_reducible refine acc_none ?_ | (conv in hold _=>simp (disch:=omega) only [go_sem,List.getElem?_map,hx,Option.map_some])|refine Stp.go ?_|(with_reducible first|refine it_pos rfl ?_|refine it_neg (by decide) ?_|refine st_nil rfl ?_|refine s_op ?_ ?_|exact trivial)|((with_reducible first|refine dw_reg0 ?_|refine dw_regB ?_);(conv=>arg 3;whnf))|(refine Spl.go (fun hq he=>?_) (fun hq he=>?_)<;>first|(exfalso;clear hq;omega)|((try first|(conv=>arg 8;simp only [hq])|(conv=>arg 4;simp only [hq]));clear hq))|((with_reducible first|refine c_split (fun hq=>?_) (fun hq=>?_)|refine q_split (fun hq=>?_) (fun hq=>?_))<;>(try first|(conv=>arg 8;simp only [hq])|(conv=>arg 4;simp only [hq])))|(with_reducible refine fin_0 ?_ (by first|rfl|(conv=>lhs;simp only [go_sem,List.getElem?_map,hx,Option.map_some])) ?_)|exact Sub.refl _|omega)
    refine c_doesE (hix) ?_ ?_ ?_
    ·((try (conv=>rhs;simp (disch:=omega) only [go_sem])); try rfl)
    ·first|rfl|(conv=>lhs;simp only [go_sem])
    repeat' (first|with_reducible refine acc_none ?_ | (conv in hold _=>simp (disch:=omega) only [go_sem])|refine Stp.go ?_|(with_reducible first|refine it_pos rfl ?_|refine it_neg (by decide) ?_|refine st_nil rfl ?_|refine s_op ?_ ?_|exact trivial)|((with_reducible first|refine dw_reg0 ?_|refine dw_regB ?_);(conv=>arg 3;whnf))|(refine Spl.go (fun hq he=>?_) (fun hq he=>?_)<;>first|(exfalso;clear hq;omega)|((try first|(conv=>arg 8;simp only [hq])|(conv=>arg 4;simp only [hq]));clear hq))|((with_reducible first|refine c_split (fun hq=>?_) (fun hq=>?_)|refine q_split (fun hq=>?_) (fun hq=>?_))<;>(try first|(conv=>arg 8;simp only [hq])|(conv=>arg 4;simp only [hq])))|(with_reducible refine fin_0 ?_ (by first|rfl|(conv=>lhs;simp only [go_sem])) ?_)|exact Sub.refl _|omega)
    refine ⟨hlt1,trivial,Wk.list [1000000,1000001,1000002,2000040] rfl rfl ?_⟩
    repeat' (first|(conv in hold _=>simp (disch:=omega) only [go_sem])|exact trivial|exact Sub.refl _|omega)
    rw [hmt,hnx,List.map_append,List.map_cons,List.map_nil,eD_eq (subE bs x)]
   ·have e1 : (subL bs e.ks).take e.ks.length = subL bs e.ks:=List.take_of_length_le (by omega)
    have e2 : ((subL bs e.ks).map eD).take e.ks.length = (subL bs e.ks).map eD:=List.take_of_length_le (by rw [List.length_map]; omega)
    repeat' (first|with_reducible refine acc_none ?_ | (conv in hold _=>simp (disch:=omega) only [go_sem,e1])|refine Stp.go ?_|(with_reducible first|refine it_pos rfl ?_|refine it_neg (by decide) ?_|refine st_nil rfl ?_|refine s_op ?_ ?_|exact trivial)|((with_reducible first|refine dw_reg0 ?_|refine dw_regB ?_);(conv=>arg 3;whnf))|(refine Spl.go (fun hq he=>?_) (fun hq he=>?_)<;>first|(exfalso;clear hq;omega)|((try first|(conv=>arg 8;simp only [hq])|(conv=>arg 4;simp only [hq]));clear hq))|((with_reducible first|refine c_split (fun hq=>?_) (fun hq=>?_)|refine q_split (fun hq=>?_) (fun hq=>?_))<;>(try first|(conv=>arg 8;simp only [hq])|(conv=>arg 4;simp only [hq])))|exact Sub.refl _|omega)
    refine fin_wk (wk_frzO 1000001 1000003 (by decide) (by decide) rfl (by decide) rfl ?_) ?_
    rotate_left
    (conv in hold _=>simp (disch:=omega) only [go_sem,e1,e2,hll,Nat.le_refl])
    ·refine fin_L [] ?_ ?_ rfl ?_
     repeat' (first|(conv in hold _=>simp (disch:=omega) only [go_sem])|exact trivial|exact Sub.refl _|omega)
    ·exact exprs_pur _
end Go.Proofs.YtgpdmgaemhelgaaGreat
set_option maxHeartbeats 4000000
set_option maxRecDepth 100000
set_option linter.unusedVariables false
set_option linter.unusedSimpArgs false
namespace Go.Proofs.YtgpdmgaemhelgaaGreat
open Go.RowKit
theorem Cmp.of {f : FuncId} {xs : List D} {P : Prop} (h : ∀ b : Bool,(P → b = true) → (¬ P → b = false) → Does Tryz.prog f [] xs (Bo b) []) : Cmp f xs P:=
 ⟨fun g=>h _ (fun _=>rfl) (fun h'=>absurd g h'),fun g=>h _ (fun h'=>absurd h' g) (fun _=>rfl)⟩
theorem upto_same {α : Type} {l m : List α} {i : Nat} {x y : α} (hx : l[i]? = some x) (hy : m[i]? = some y) (hxy : x = y) (hJ : ∀ (j : Nat) (x y : α),j < i → l[j]? = some x → m[j]? = some y → x = y) : ∀ (j : Nat) (x y : α),j < i + 1 → l[j]? = some x → m[j]? = some y → x = y:=by
 intro j x' y' hj h1 h2
 by_cases hji : j = i
 ·subst hji
  rw [hx] at h1
  rw [hy] at h2
  cases h1
  cases h2
  exact hxy
 ·exact hJ j x' y' (by omega) h1 h2
theorem not_same {α : Type} {l m : List α} {i : Nat} {x y : α} (hx : l[i]? = some x) (hy : m[i]? = some y) (hxy : ¬ x = y) : ¬ l = m:=fun h=>hxy (by subst h; rw [hx] at hy; exact Option.some.inj hy)
end Go.Proofs.YtgpdmgaemhelgaaGreat
set_option maxHeartbeats 4000000
set_option maxRecDepth 100000
namespace Go.Proofs.YtgpdmgaemhelgaaGreat
open Go.RowKit
theorem sum_next {ns : List Int} {i : Nat} {x : Int} (h : ns[i]? = some x) : (ns.take (i + 1)).sum = (ns.take i).sum + x:=by
 rw [take_next h,List.sum_append,List.sum_cons,List.sum_nil]
 omega
theorem sumOf_ok (ns : List Int) (hl : ns.length ≤ 1000) (hn : ∀ (j : Nat) (x : Int),ns[j]? = some x → 0 ≤ x ∧ x ≤ 6) : Does Tryz.prog 147 [] [intsD ns] (I ns.sum) []:=by
 refine Bg c_Z147 mixed (go1 trivial ?_)
 refine dw_for (c:=0) (l:=fun i=>[(3,I (ns.take i).sum),(6,intsD ns),(7,I ns.length),(8,I i)]) ns.length (fun i=>0 ≤ (ns.take i).sum ∧ (ns.take i).sum ≤ 6 * i) 0 (by simp) (Wk.list [] rfl rfl ?_) (fun i hi hJ=>?_) (Nat.zero_le _)
 ·repeat' (first|(conv in hold _=>simp (disch:=omega) only [go_sem])|exact trivial|exact Sub.refl _|omega)
  exact ⟨rfl,rfl⟩
 ·rcases at_or_end hi with ⟨x,hx,hlt⟩ | rfl
  ·have h1:=hn i x hx
   have h2:=sum_next hx
   refine go1 @hx ?_
   refine ⟨hlt,by omega,Wk.list [] rfl rfl ?_⟩
   exact Ag @h2
  ·repeat' (first|with_reducible refine acc_none ?_ | (conv in hold _=>simp (disch:=omega) only [go_sem,List.take_length])|refine Stp.go ?_|(with_reducible first|refine it_pos rfl ?_|refine it_neg (by decide) ?_|refine st_nil rfl ?_|refine s_op ?_ ?_|exact trivial)|((with_reducible first|refine dw_reg0 ?_|refine dw_regB ?_);(conv=>arg 3;whnf))|(refine Spl.go (fun hq he=>?_) (fun hq he=>?_)<;>first|(exfalso;clear hq;omega)|((try first|(conv=>arg 8;simp only [hq])|(conv=>arg 4;simp only [hq]));clear hq))|((with_reducible first|refine c_split (fun hq=>?_) (fun hq=>?_)|refine q_split (fun hq=>?_) (fun hq=>?_))<;>(try first|(conv=>arg 8;simp only [hq])|(conv=>arg 4;simp only [hq])))|(with_reducible refine fin_0 ?_ (by first|rfl|(conv=>lhs;simp only [go_sem,List.take_length])) ?_)|exact Sub.refl _|omega)
def fitsV (p : Pl) (ns : List Int) : Prop:=if p.k = 6 then ns.getD 0 0 = ns.getD 1 0 else if p.k = 8 then p.cs.length < 6 ∧ colsOk p.cs (ns.getD 0 0) else ∀ (j : Nat) (e : E),p.es[j]? = some e → (1 ≤ ns.sum ∧ ns.sum ≤ 6) ∧ eOk e ns.sum 8
noncomputable instance fitsDec (p : Pl) (ns : List Int) : Decidable (fitsV p ns):=Classical.propDecidable _
theorem get_at {ns : List Int} {i : Nat} (h : i < ns.length) : ns[i]? = some (ns.getD i 0):=by
 rw [List.getD_eq_getElem?_getD,List.getElem?_eq_getElem h,Option.getD_some]
theorem get_ex {ns : List Int} {i : Nat} (h : i < ns.length) : ∃ n,ns[i]? = some n ∧ ns.getD i 0 = n:=⟨_,get_at h,rfl⟩
theorem fitsKids_ok (p : Pl) (ns : List Int) (hl : ns.length ≤ 1000) (hc : p.cs.length ≤ 1048576) (he : p.es.length ≤ 1048576) (hn : ∀ (j : Nat) (x : Int),ns[j]? = some x → 0 ≤ x ∧ x ≤ 6) (h0 : 0 < ns.length) (h1 : p.k = 6 → 1 < ns.length) : Does Tryz.prog 101 [] [pD p,intsD ns] (Bo (decide (fitsV p ns))) []:=by
 obtain ⟨n0,e0,g0⟩:=get_ex h0
 by_cases h6 : p.k = 6
 ·obtain ⟨n1,e1,g1⟩:=get_ex (h1 h6)
  rw [show decide (fitsV p ns) = decide (n0 = n1) from decide_eq_decide.2 (by unfold fitsV; rw [if_pos h6,g0,g1])]
  exact Bg c_Z111 mixed (go0 (cj2 @e0 @e1))
 ·by_cases h8 : p.k = 8
  ·rw [show decide (fitsV p ns) = decide (p.cs.length < 6 ∧ colsOk p.cs n0) from decide_eq_decide.2 (by unfold fitsV; rw [if_neg h6,if_pos h8,g0])]
   have hv:=validColumns_ok p.cs n0 hc
   refine Bg c_Z111 mixed (go1 @e0 ?_)
   exact Uc trivial (hv) (go0 trivial)
  ·have hs:=sumOf_ok ns hl hn
   have hfv : fitsV p ns ↔ ∀ (j : Nat) (e : E),p.es[j]? = some e → (1 ≤ ns.sum ∧ ns.sum ≤ 6) ∧ eOk e ns.sum 8:=by unfold fitsV; rw [if_neg h6,if_neg h8]
   refine Bg c_Z111 mixed (go1 trivial ?_)
   refine dw_for (c:=0) (l:=fun i=>[(1,intsD ns),(27,.sl 5 (p.es.map eD)),(28,I p.es.length),(29,I i)]) p.es.length (fun i=>∀ (j : Nat) (e : E),j < i → p.es[j]? = some e → (1 ≤ ns.sum ∧ ns.sum ≤ 6) ∧ eOk e ns.sum 8) 0 (fun j w hj=>by omega) (Wk.list [] rfl rfl ?_) (fun i hi hJ=>?_) (Nat.zero_le _)
   ·repeat' (first|(conv in hold _=>simp (disch:=omega) only [go_sem])|exact trivial|exact Sub.refl _|omega)
    exact rfl
   ·rcases at_or_end hi with ⟨x,hx,hlt⟩ | rfl
    ·have hr:=implValidExpr_ok x ns.sum
     by_cases hv : (1 ≤ ns.sum ∧ ns.sum ≤ 6) ∧ eOk x ns.sum 8
     ·rw [decide_eq_true hv] at hr
      refine go1 @hx ?_
      refine Uc trivial (hs) (go1 trivial ?_)
      refine Uc trivial (hr) (go1 trivial ?_)
      refine ⟨hlt,upto1 (P:=fun _ e=>(1 ≤ ns.sum ∧ ns.sum ≤ 6) ∧ eOk e ns.sum 8) hx hv hJ,Wk.list [] rfl rfl ?_⟩
      exact Ag trivial
     ·rw [decide_eq_false hv] at hr
      refine go1 @hx ?_
      refine Uc trivial (hs) (go1 trivial ?_)
      refine Uc trivial (hr) (go1 trivial ?_)
      exact sub_f (fun h=>hv (hfv.1 h i x hx))
    ·refine go1 trivial ?_
     exact sub_iff ⟨fun _=>hfv.2 (upto0 (P:=fun _ e=>(1 ≤ ns.sum ∧ ns.sum ≤ 6) ∧ eOk e ns.sum 8) hJ),fun _=>rfl⟩
def fromV (p : Pl) (ns : List Int) : Int:=if p.k = 3 then p.es.length else if p.k = 4 ∨ p.k = 5 then ns.sum else if p.k = 8 then p.cs.length + 1 else ns.getD 0 0
theorem widthFrom_ok (p : Pl) (ns : List Int) (hl : ns.length ≤ 1000) (hc : p.cs.length ≤ 1048576) (hn : ∀ (j : Nat) (x : Int),ns[j]? = some x → 0 ≤ x ∧ x ≤ 6) (h0 : 0 < ns.length) : Does Tryz.prog 102 [] [pD p,intsD ns] (I (fromV p ns)) []:=by
 obtain ⟨n0,e0,g0⟩:=get_ex h0
 have hs:=sumOf_ok ns hl hn
 unfold fromV
 rw [g0]
 by_cases h3 : p.k = 3
 ·rw [if_pos h3]
  exact Bg c_Z96 mixed (go0 trivial)
 ·rw [if_neg h3]
  by_cases h4 : p.k = 4 ∨ p.k = 5
  ·rw [if_pos h4]
   refine does0 c_Z96 mixed (Nat.le_of_ble_eq_true rfl) ?_
   conv=>arg 3; whnf
   repeat' (first|with_reducible refine acc_none ?_ | (conv in hold _=>simp (disch:=omega) only [go_sem])|refine Stp.go ?_|(with_reducible first|refine it_pos rfl ?_|refine it_neg (by decide) ?_|refine st_nil rfl ?_|refine s_op ?_ ?_|exact trivial)|((with_reducible first|refine dw_reg0 ?_|refine dw_regB ?_);(conv=>arg 3;whnf))|(refine Spl.go (fun hq he=>?_) (fun hq he=>?_)<;>first|(exfalso;clear hq;omega)|((try first|(conv=>arg 8;simp only [hq])|(conv=>arg 4;simp only [hq]));clear hq))|((with_reducible first|refine c_split (fun hq=>?_) (fun hq=>?_)|refine q_split (fun hq=>?_) (fun hq=>?_))<;>(try first|(conv=>arg 8;simp only [hq])|(conv=>arg 4;simp only [hq])))|(with_reducible refine fin_0 ?_ (by first|rfl|(conv=>lhs;simp only [go_sem])) ?_)|exact Sub.refl _|omega)
   all_goals
    exact Uc trivial (hs) (go0 trivial)
  ·rw [if_neg h4]
   by_cases h8 : p.k = 8
   ·rw [if_pos h8]
    exact Bg c_Z96 mixed (go0 trivial)
   ·rw [if_neg h8]
    exact Bg c_Z96 mixed (go0 @e0)
end Go.Proofs.YtgpdmgaemhelgaaGreat
set_option maxHeartbeats 4000000
set_option maxRecDepth 100000
namespace Go.Proofs.YtgpdmgaemhelgaaGreat
open Go.RowKit
theorem truth_not_ok (n : Int) (h : 0 ≤ n ∧ n ≤ 2) : Does Tryz.prog 207 [] [I n] (I (2 - n)) []:=by
 refine does0 c_Z95 mixed (Nat.le_of_ble_eq_true rfl) ?_
 conv=>arg 3; whnf
 repeat' (first|with_reducible refine acc_none ?_ | (conv in hold _=>simp (disch:=omega) only [go_sem])|refine Stp.go ?_|(with_reducible first|refine it_pos rfl ?_|refine it_neg (by decide) ?_|refine st_nil rfl ?_|refine s_op ?_ ?_|exact trivial)|((with_reducible first|refine dw_reg0 ?_|refine dw_regB ?_);(conv=>arg 3;whnf))|(refine Spl.go (fun hq he=>?_) (fun hq he=>?_)<;>first|(exfalso;clear hq;omega)|((try first|(conv=>arg 8;simp only [hq])|(conv=>arg 4;simp only [hq]));clear hq))|((with_reducible first|refine c_split (fun hq=>?_) (fun hq=>?_)|refine q_split (fun hq=>?_) (fun hq=>?_))<;>(try first|(conv=>arg 8;simp only [hq])|(conv=>arg 4;simp only [hq])))|(with_reducible refine fin_0 ?_ (by first|rfl|(conv=>lhs;simp only [go_sem])) ?_)|exact Sub.refl _|omega)
theorem truth_value_ok (n : Int) : Does Tryz.prog 208 [] [I n] (vD (itv n)) []:=by
 refine does0 c_Z60 mixed (Nat.le_of_ble_eq_true rfl) ?_
 conv=>arg 3; whnf
 repeat' (first|with_reducible refine acc_none ?_ | (conv in hold _=>simp (disch:=omega) only [go_sem])|refine Stp.go ?_|(with_reducible first|refine it_pos rfl ?_|refine it_neg (by decide) ?_|refine st_nil rfl ?_|refine s_op ?_ ?_|exact trivial)|((with_reducible first|refine dw_reg0 ?_|refine dw_regB ?_);(conv=>arg 3;whnf))|(refine Spl.go (fun hq he=>?_) (fun hq he=>?_)<;>first|(exfalso;clear hq;omega)|((try first|(conv=>arg 8;simp only [hq])|(conv=>arg 4;simp only [hq]));clear hq))|((with_reducible first|refine c_split (fun hq=>?_) (fun hq=>?_)|refine q_split (fun hq=>?_) (fun hq=>?_))<;>(try first|(conv=>arg 8;simp only [hq])|(conv=>arg 4;simp only [hq])))|(with_reducible refine fin_0 ?_ (by first|rfl|(conv=>lhs;simp only [go_sem])) ?_)|exact Sub.refl _|omega)
 ·rw [show itv n = ⟨false,0⟩ from if_pos he]; exact Sub.refl _
 ·rw [show itv n = ⟨false,1⟩ by unfold itv; rw [if_neg (by omega),if_pos he]]; exact Sub.refl _
 ·rw [show itv n = ⟨true,0⟩ by unfold itv; rw [if_neg (by omega),if_neg he]]; exact Sub.refl _
end Go.Proofs.YtgpdmgaemhelgaaGreat
