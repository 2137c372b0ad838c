/-
  Validity, in both packages. No condition.
-/
import Derived.Test.YtgpdmgaemhelgaaGreatKSDca
import Derived.Test.YtgpdmgaemhelgaaGreatJSVClC
import Derived.Test.YtgpdmgaemhelgaaGreatJSVClA
import Derived.Test.YtgpdmgaemhelgaaGreatJSVBox
import Derived.Test.YtgpdmgaemhelgaaGreatJSVYld
import Derived.Test.YtgpdmgaemhelgaaGreatKSDcb
import Derived.Test.YtgpdmgaemhelgaaGreatKSDcc
import Derived.Test.YtgpdmgaemhelgaaGreatJSVEsz
set_option maxHeartbeats 4000000
set_option maxRecDepth 100000
namespace Go.Proofs.YtgpdmgaemhelgaaGreat
open Go.RowKit
theorem validExpr_ok (w : Int) (hw : -1000 < w ∧ w < 1000) : ∀ (e : E) (d : Nat),d < 1000 → Does Tryz.prog 172 [] [eD e,I w,I d] (Bo (decide (eOk e w d))) []:=by
 refine E.ind (fun e ih d hd=>?_)
 have hk2:=kidsN_le e.k
 have hk0 : e.k = 1 ∨ e.k = 2 → kidsN e.k = 0:=kidsN_leaf
 refine does0 c_Z107 mixed (Nat.le_of_ble_eq_true rfl) ?_
 conv=>arg 3; whnf
 repeat' (first|with_reducible refine acc_none ?_ | (conv in hold _=>simp (disch:=omega) only [go_sem])|refine Stp.go ?_|(with_reducible first|refine it_pos rfl ?_|refine it_neg (by decide) ?_|refine st_nil rfl ?_|refine s_op ?_ ?_|exact trivial)|((with_reducible first|refine dw_reg0 ?_|refine dw_regB ?_);(conv=>arg 3;whnf))|(refine Spl.go (fun hq he=>?_) (fun hq he=>?_)<;>first|(exfalso;clear hq;omega)|((try first|(conv=>arg 8;simp only [hq])|(conv=>arg 4;simp only [hq]));clear hq))|((with_reducible first|refine c_split (fun hq=>?_) (fun hq=>?_)|refine q_split (fun hq=>?_) (fun hq=>?_))<;>(try first|(conv=>arg 8;simp only [hq])|(conv=>arg 4;simp only [hq])))|(with_reducible refine fin_0 ?_ (by first|rfl|(conv=>lhs;simp only [go_sem])) ?_)|exact Sub.refl _|omega)
 refine c_doesE (does_kidsOf e.k) ?_ ?_ ?_
 ·((try (conv=>rhs;simp (disch:=omega) only [go_sem])); try rfl)
 ·first|rfl|(conv=>lhs;simp only [go_sem])
 repeat' (first|with_reducible refine acc_none ?_ | (conv in hold _=>simp (disch:=omega) only [go_sem])|refine Stp.go ?_|(with_reducible first|refine it_pos rfl ?_|refine it_neg (by decide) ?_|refine st_nil rfl ?_|refine s_op ?_ ?_|exact trivial)|((with_reducible first|refine dw_reg0 ?_|refine dw_regB ?_);(conv=>arg 3;whnf))|(refine Spl.go (fun hq he=>?_) (fun hq he=>?_)<;>first|(exfalso;clear hq;omega)|((try first|(conv=>arg 8;simp only [hq])|(conv=>arg 4;simp only [hq]));clear hq))|((with_reducible first|refine c_split (fun hq=>?_) (fun hq=>?_)|refine q_split (fun hq=>?_) (fun hq=>?_))<;>(try first|(conv=>arg 8;simp only [hq])|(conv=>arg 4;simp only [hq])))|(with_reducible refine fin_0 ?_ (by first|rfl|(conv=>lhs;simp only [go_sem])) ?_)|exact Sub.refl _|omega)
 all_goals try exact sub_f (fun h=>by rw [eOk_iff] at h; have:=h.1; have:=h.2.1; omega)
 ·refine dw_for (c:=1) (l:=fun i=>[(1,I w),(2,I d),(3,.ref 1000000 0),(7,I i),(1000000,.obj [I e.k,I e.c,Bo e.v.b,I e.v.n,.sl 5 (e.ks.map eD)])]) e.ks.length (fun i=>∀ j x,j < i → e.ks[j]? = some x → eOk x w (d - 1)) 0 (by omega) (Wk.list [2000003] rfl rfl ?_) (fun i hi hJ=>?_) (Nat.zero_le _)
  ·repeat' (first|(conv in hold _=>simp (disch:=omega) only [go_sem])|exact trivial|exact Sub.refl _|omega)
   try exact rfl
  ·skip
   rcases at_or_end hi with ⟨x,hx,hlt⟩ | rfl
   ·have hdc : ((d - 1 : Nat) : Int) = (d : Int) - 1:=by omega
    have hih:=ih x (List.mem_of_getElem? hx) (d - 1) (by omega)
    rw [hdc] at hih
    repeat' (first|with_reducible refine acc_none ?_ | (conv in hold _=>simp (disch:=omega) only [go_sem,List.getElem?_map,hx,Option.map_some])|refine Stp.go ?_|(with_reducible first|refine it_pos rfl ?_|refine it_neg (by decide) ?_|refine st_nil rfl ?_|refine s_op ?_ ?_|exact trivial)|((with_reducible first|refine dw_reg0 ?_|refine dw_regB ?_);(conv=>arg 3;whnf))|(refine Spl.go (fun hq he=>?_) (fun hq he=>?_)<;>first|(exfalso;clear hq;omega)|((try first|(conv=>arg 8;simp only [hq])|(conv=>arg 4;simp only [hq]));clear hq))|((with_reducible first|refine c_split (fun hq=>?_) (fun hq=>?_)|refine q_split (fun hq=>?_) (fun hq=>?_))<;>(try first|(conv=>arg 8;simp only [hq])|(conv=>arg 4;simp only [hq])))|(with_reducible refine fin_0 ?_ (by first|rfl|(conv=>lhs;simp only [go_sem,List.getElem?_map,hx,Option.map_some])) ?_)|exact Sub.refl _|omega)
    refine c_doesE (hih) ?_ ?_ ?_
    ·((try (conv=>rhs;simp (disch:=omega) only [go_sem])); try rfl)
    ·first|rfl|(conv=>lhs;simp only [go_sem])
    repeat' (first|with_reducible refine acc_none ?_ | (conv in hold _=>simp (disch:=omega) only [go_sem])|refine Stp.go ?_|(with_reducible first|refine it_pos rfl ?_|refine it_neg (by decide) ?_|refine st_nil rfl ?_|refine s_op ?_ ?_|exact trivial)|((with_reducible first|refine dw_reg0 ?_|refine dw_regB ?_);(conv=>arg 3;whnf))|(refine Spl.go (fun hq he=>?_) (fun hq he=>?_)<;>first|(exfalso;clear hq;omega)|((try first|(conv=>arg 8;simp only [hq])|(conv=>arg 4;simp only [hq]));clear hq))|((with_reducible first|refine c_split (fun hq=>?_) (fun hq=>?_)|refine q_split (fun hq=>?_) (fun hq=>?_))<;>(try first|(conv=>arg 8;simp only [hq])|(conv=>arg 4;simp only [hq])))|(with_reducible refine fin_0 ?_ (by first|rfl|(conv=>lhs;simp only [go_sem])) ?_)|exact Sub.refl _|omega)
    ·exact sub_f (fun h=>by rw [eOk_iff] at h; exact he (h.2.2.1 x (List.mem_of_getElem? hx)))
    ·refine ⟨hlt,upto_next hx hJ he,Wk.list [1000000] rfl rfl ?_⟩
     repeat' (first|(conv in hold _=>simp (disch:=omega) only [go_sem])|exact trivial|exact Sub.refl _|omega)
   ·have core : eOk e w d ↔ leafOk e.k e.c e.v w:=by
     rw [eOk_iff]
     exact ⟨fun h=>h.2.2.2,fun h=>⟨by omega,by omega,upto_all hJ,h⟩⟩
    repeat' (first|with_reducible refine acc_none ?_ | (conv in hold _=>simp (disch:=omega) only [go_sem])|refine Stp.go ?_|(with_reducible first|refine it_pos rfl ?_|refine it_neg (by decide) ?_|refine st_nil rfl ?_|refine s_op ?_ ?_|exact trivial)|((with_reducible first|refine dw_reg0 ?_|refine dw_regB ?_);(conv=>arg 3;whnf))|(refine Spl.go (fun hq he=>?_) (fun hq he=>?_)<;>first|(exfalso;clear hq;omega)|((try first|(conv=>arg 8;simp only [hq])|(conv=>arg 4;simp only [hq]));clear hq))|((with_reducible first|refine c_split (fun hq=>?_) (fun hq=>?_)|refine q_split (fun hq=>?_) (fun hq=>?_))<;>(try first|(conv=>arg 8;simp only [hq])|(conv=>arg 4;simp only [hq])))|(with_reducible refine fin_0 ?_ (by first|rfl|(conv=>lhs;simp only [go_sem])) ?_)|exact Sub.refl _|omega)
    all_goals try exact sub_f (fun h=>leaf2f (by omega) (by omega) (core.1 h))
    all_goals try exact sub_iff ((leaf3 (by omega) (by omega) (by omega)).trans core.symm)
 ·refine dw_for (c:=1) (l:=fun i=>[(1,I w),(2,I d),(3,.ref 1000000 0),(7,I i),(1000000,.obj [I e.k,I e.c,Bo e.v.b,I e.v.n,.sl 5 (e.ks.map eD)])]) e.ks.length (fun i=>∀ j x,j < i → e.ks[j]? = some x → eOk x w (d - 1)) 0 (by omega) (Wk.list [2000003] rfl rfl ?_) (fun i hi hJ=>?_) (Nat.zero_le _)
  ·repeat' (first|(conv in hold _=>simp (disch:=omega) only [go_sem])|exact trivial|exact Sub.refl _|omega)
   try exact rfl
  ·skip
   rcases at_or_end hi with ⟨x,hx,hlt⟩ | rfl
   ·exact absurd hlt (by omega)
   ·have core : eOk e w d ↔ leafOk e.k e.c e.v w:=by
     rw [eOk_iff]
     exact ⟨fun h=>h.2.2.2,fun h=>⟨by omega,by omega,upto_all hJ,h⟩⟩
    repeat' (first|with_reducible refine acc_none ?_ | (conv in hold _=>simp (disch:=omega) only [go_sem])|refine Stp.go ?_|(with_reducible first|refine it_pos rfl ?_|refine it_neg (by decide) ?_|refine st_nil rfl ?_|refine s_op ?_ ?_|exact trivial)|((with_reducible first|refine dw_reg0 ?_|refine dw_regB ?_);(conv=>arg 3;whnf))|(refine Spl.go (fun hq he=>?_) (fun hq he=>?_)<;>first|(exfalso;clear hq;omega)|((try first|(conv=>arg 8;simp only [hq])|(conv=>arg 4;simp only [hq]));clear hq))|((with_reducible first|refine c_split (fun hq=>?_) (fun hq=>?_)|refine q_split (fun hq=>?_) (fun hq=>?_))<;>(try first|(conv=>arg 8;simp only [hq])|(conv=>arg 4;simp only [hq])))|(with_reducible refine fin_0 ?_ (by first|rfl|(conv=>lhs;simp only [go_sem])) ?_)|exact Sub.refl _|omega)
    all_goals try exact sub_f (fun h=>leaf2f (by omega) (by omega) (core.1 h))
    all_goals try exact sub_iff ((leaf3 (by omega) (by omega) (by omega)).trans core.symm)
    ·refine c_doesE (inRange_ok e.c 0 (w - 1)) ?_ ?_ ?_
     ·((try (conv=>rhs;simp (disch:=omega) only [go_sem])); try rfl)
     ·first|rfl|(conv=>lhs;simp only [go_sem])
     repeat' (first|with_reducible refine acc_none ?_ | (conv in hold _=>simp (disch:=omega) only [go_sem])|refine Stp.go ?_|(with_reducible first|refine it_pos rfl ?_|refine it_neg (by decide) ?_|refine st_nil rfl ?_|refine s_op ?_ ?_|exact trivial)|((with_reducible first|refine dw_reg0 ?_|refine dw_regB ?_);(conv=>arg 3;whnf))|(refine Spl.go (fun hq he=>?_) (fun hq he=>?_)<;>first|(exfalso;clear hq;omega)|((try first|(conv=>arg 8;simp only [hq])|(conv=>arg 4;simp only [hq]));clear hq))|((with_reducible first|refine c_split (fun hq=>?_) (fun hq=>?_)|refine q_split (fun hq=>?_) (fun hq=>?_))<;>(try first|(conv=>arg 8;simp only [hq])|(conv=>arg 4;simp only [hq])))|(with_reducible refine fin_0 ?_ (by first|rfl|(conv=>lhs;simp only [go_sem])) ?_)|exact Sub.refl _|omega)
     ·exact sub_iff ((leaf1 (by omega) (by omega)).trans core.symm)
     ·exact sub_f (fun h=>leaf1f (by omega) (by omega) (core.1 h))
    ·refine Uc trivial (validValue_ok e.v) (go1 trivial ?_)
     exact sub_iff (by rw [decide_eq_true_iff]; exact (leaf2 (by omega) (by omega)).trans core.symm)
theorem ValidExpr_ok (e : E) (w : Int) (hw : -1000 < w ∧ w < 1000) : Does Tryz.prog 138 [] [eD e,I w] (Bo (decide ((1 ≤ w ∧ w ≤ 6) ∧ eOk e w 8))) []:=by
 have h8:=validExpr_ok w hw e 8 (by decide)
 refine Bg c_Z98 mixed (go1 trivial ?_)
 refine c_doesE (inRange_ok w 1 6) ?_ ?_ ?_
 ·((try (conv=>rhs;simp (disch:=omega) only [go_sem])); try rfl)
 ·first|rfl|(conv=>lhs;simp only [go_sem])
 repeat' (first|with_reducible refine acc_none ?_ | (conv in hold _=>simp (disch:=omega) only [go_sem])|refine Stp.go ?_|(with_reducible first|refine it_pos rfl ?_|refine it_neg (by decide) ?_|refine st_nil rfl ?_|refine s_op ?_ ?_|exact trivial)|((with_reducible first|refine dw_reg0 ?_|refine dw_regB ?_);(conv=>arg 3;whnf))|(refine Spl.go (fun hq he=>?_) (fun hq he=>?_)<;>first|(exfalso;clear hq;omega)|((try first|(conv=>arg 8;simp only [hq])|(conv=>arg 4;simp only [hq]));clear hq))|((with_reducible first|refine c_split (fun hq=>?_) (fun hq=>?_)|refine q_split (fun hq=>?_) (fun hq=>?_))<;>(try first|(conv=>arg 8;simp only [hq])|(conv=>arg 4;simp only [hq])))|(with_reducible refine fin_0 ?_ (by first|rfl|(conv=>lhs;simp only [go_sem])) ?_)|exact Sub.refl _|omega)
 ·refine Uc trivial (h8) (go1 trivial ?_)
  exact sub_iff (by rw [decide_eq_true_iff]; exact ⟨fun h=>⟨he,h⟩,fun h=>h.2⟩)
 ·exact sub_f (fun h=>he h.1)
end Go.Proofs.YtgpdmgaemhelgaaGreat
set_option maxHeartbeats 4000000
set_option maxRecDepth 100000
set_option linter.unusedVariables false
set_option linter.unusedSimpArgs false
namespace Go.Proofs.YtgpdmgaemhelgaaGreat
open Go.RowKit
mutual
def rwE (g : E → E) : E → E
 | .mk k c v ks=>g (.mk k c v (rwL g ks))
def rwL (g : E → E) : List E → List E
 | []=>[]
 | e :: l=>rwE g e :: rwL g l
end
theorem rwE_eq (g : E → E) (e : E) : rwE g e = g (.mk e.k e.c e.v (rwL g e.ks)):=by cases e; rfl
theorem rwL_map (g : E → E) : ∀ l : List E,rwL g l = l.map (rwE g)
 | []=>rfl
 | e :: l=>by rw [rwL,rwL_map g l,List.map_cons]
end Go.Proofs.YtgpdmgaemhelgaaGreat
set_option maxHeartbeats 4000000
set_option maxRecDepth 100000
namespace Go.Proofs.YtgpdmgaemhelgaaGreat
open Go.RowKit
theorem randomValue_ok {bs : List Nat} (hs : Src bs) (p : Nat) (hp : p < 900000000) : ∃ (v : V) (q : Nat),(Does Tryz.prog 180 [rdD bs p] [.ref 1000000 0] (vD v) [rdD bs q] ∧ v.ok) ∧ p ≤ q ∧ q ≤ p + 2:=by
 obtain ⟨k,hk,k0,k1,_⟩:=pick_ok hs p (by omega) 5 (by omega)
 by_cases h : k = 0
 ·refine ⟨⟨true,0⟩,p + 1,⟨?_,okV (by omega) (by omega) fun _=>rfl⟩,by omega,by omega⟩
  refine Bk c_Z67 mixed 1 (go1 trivial ?_)
  refine UcR [1000000] trivial (hk) (go1 trivial ?_)
  refine fin_L [1000000] ?_ ?_ rfl ?_
  repeat' (first|(conv in hold _=>simp (disch:=omega) only [go_sem])|exact trivial|exact Sub.refl _|omega)
 ·obtain ⟨n,hn,hm⟩:=one_ok hs (p + 1) (by omega) [0,1,2,3,-1] (by decide) (by decide)
  have hr : -1 ≤ n ∧ n ≤ 3:=by simp at hm; omega
  refine ⟨⟨false,n⟩,p + 2,⟨?_,okV (by omega) (by omega) fun e=>by cases e⟩,by omega,by omega⟩
  refine Bk c_Z67 mixed 1 (go1 trivial ?_)
  refine UcR [1000000] trivial (hk) (go1 trivial ?_)
  refine UcR [1000000] trivial (hn) (go1 trivial ?_)
  refine fin_L [1000000] ?_ ?_ rfl ?_
  repeat' (first|(conv in hold _=>simp (disch:=omega) only [go_sem])|exact trivial|exact Sub.refl _|omega)
structure V.near (v : V) : Prop where
 lo : -10000 ≤ v.n
 hi : v.n ≤ 10000
theorem anyValue_ok {bs : List Nat} (hs : Src bs) (p : Nat) (hp : p < 800000000) : ∃ (v : V) (q : Nat),(Does Tryz.prog 157 [rdD bs p] [.ref 1000000 0] (vD v) [rdD bs q] ∧ v.near) ∧ p ≤ q ∧ q ≤ p + 4:=by
 obtain ⟨v,q,⟨hv,hvo⟩,hq0,hq1⟩:=randomValue_ok hs p (by omega)
 obtain ⟨k,hk,k0,k1,_⟩:=pick_ok hs q (by omega) 14 (by omega)
 by_cases h : k = 0
 ·refine ⟨⟨true,1⟩,q + 1,⟨?_,⟨by decide,by decide⟩⟩,by omega,by omega⟩
  refine Bk c_Z120 mixed 1 (go1 trivial ?_)
  refine UcR [1000000] trivial (hv) (go1 trivial ?_)
  refine UcR [1000000] trivial (hk) (go1 trivial ?_)
  refine fin_L [1000000] ?_ ?_ rfl ?_
  repeat' (first|(conv in hold _=>simp (disch:=omega) only [go_sem])|exact trivial|exact Sub.refl _|omega)
 ·by_cases h1 : k = 1
  ·obtain ⟨n,hn,hm⟩:=one_ok hs (q + 1) (by omega) [10000,-10000,9999,-9999] (by decide) (by decide)
   have hr : -10000 ≤ n ∧ n ≤ 10000:=by simp at hm; omega
   refine ⟨⟨false,n⟩,q + 2,⟨?_,⟨hr.1,hr.2⟩⟩,by omega,by omega⟩
   refine Bk c_Z120 mixed 1 (go1 trivial ?_)
   refine UcR [1000000] trivial (hv) (go1 trivial ?_)
   refine UcR [1000000] trivial (hk) (go1 trivial ?_)
   refine UcR [1000000] trivial (hn) (go1 trivial ?_)
   refine fin_L [1000000] ?_ ?_ rfl ?_
   repeat' (first|(conv in hold _=>simp (disch:=omega) only [go_sem])|exact trivial|exact Sub.refl _|omega)
  ·have:=hvo.lo
   have:=hvo.hi
   refine ⟨v,q + 1,⟨?_,⟨by omega,by omega⟩⟩,by omega,by omega⟩
   refine Bk c_Z120 mixed 1 (go1 trivial ?_)
   refine UcR [1000000] trivial (hv) (go1 trivial ?_)
   refine UcR [1000000] trivial (hk) (go1 trivial ?_)
   refine fin_L [1000000] ?_ ?_ rfl ?_
   repeat' (first|(conv in hold _=>simp (disch:=omega) only [go_sem])|exact trivial|exact Sub.refl _|omega)
end Go.Proofs.YtgpdmgaemhelgaaGreat
set_option maxHeartbeats 4000000
set_option maxRecDepth 100000
namespace Go.Proofs.YtgpdmgaemhelgaaGreat
open Go.RowKit
theorem copyExpr_ok : ∀ e : E,esz e < 1000000 → Does Tryz.prog 110 [] [eD e] (eD e) []:=by
 refine E.ind (fun e ih h=>?_)
 rw [esz_eq] at h
 have hlen:=eszL_len e.ks
 refine does0 c_Z122 mixed (Nat.le_of_ble_eq_true rfl) ?_
 conv=>arg 3; whnf
 repeat' (first|with_reducible refine acc_none ?_ | (conv in hold _=>simp (disch:=omega) only [go_sem])|refine Stp.go ?_|(with_reducible first|refine it_pos rfl ?_|refine it_neg (by decide) ?_|refine st_nil rfl ?_|refine s_op ?_ ?_|exact trivial)|((with_reducible first|refine dw_reg0 ?_|refine dw_regB ?_);(conv=>arg 3;whnf))|(refine Spl.go (fun hq he=>?_) (fun hq he=>?_)<;>first|(exfalso;clear hq;omega)|((try first|(conv=>arg 8;simp only [hq])|(conv=>arg 4;simp only [hq]));clear hq))|((with_reducible first|refine c_split (fun hq=>?_) (fun hq=>?_)|refine q_split (fun hq=>?_) (fun hq=>?_))<;>(try first|(conv=>arg 8;simp only [hq])|(conv=>arg 4;simp only [hq])))|(with_reducible refine fin_0 ?_ (by first|rfl|(conv=>lhs;simp only [go_sem])) ?_)|exact Sub.refl _|omega)
 refine dw_for (c:=4) (l:=fun i=>[(1,.ref 1000000 0),(2,.ref 1000001 0),(3,.ref 1000002 0),(4,I i),(1000000,.obj [I e.k,I e.c,Bo e.v.b,I e.v.n,.sl 5 (e.ks.map eD)]),(1000001,.obj [I 0,I 0,Bo false,I 0,.nul]),(1000002,.obj [I e.k,I e.c,Bo e.v.b,I e.v.n,.own 1000003 5 i]),(1000003,.row 5 ((e.ks.take i).map eD))]) e.ks.length (fun _=>True) 0 trivial ((wk_rowO 2000003 2000028 5 4 (by decide) (by decide) (by decide) rfl rfl rfl).trans (Wk.list [2000001,2000002,2000003,2000028] rfl rfl ?_)) (fun i hi _=>?_) (Nat.zero_le _)
 ·repeat' (first|(conv in hold _=>simp (disch:=omega) only [go_sem])|exact trivial|exact Sub.refl _|omega)
  exact rfl
 ·have hlt:=take_len (vs:=e.ks) (i:=i) (by omega)
  have hmt:=take_map eD (vs:=e.ks) (i:=i) (by omega)
  rcases at_or_end hi with ⟨x,hx,hlt1⟩ | rfl
  ·have hix:=ih x (List.mem_of_getElem? hx) (by have:=eszL_mem (List.mem_of_getElem? hx); omega)
   have hnx:=take_next hx
   repeat' (first|with_reducible refine acc_none ?_ | (conv in hold _=>simp (disch:=omega) only [go_sem,List.getElem?_map,hx,Option.map_some])|refine Stp.go ?_|(with_reducible first|refine it_pos rfl ?_|refine it_neg (by decide) ?_|refine st_nil rfl ?_|refine s_op ?_ ?_|exact trivial)|((with_reducible first|refine dw_reg0 ?_|refine dw_regB ?_);(conv=>arg 3;whnf))|(refine Spl.go (fun hq he=>?_) (fun hq he=>?_)<;>first|(exfalso;clear hq;omega)|((try first|(conv=>arg 8;simp only [hq])|(conv=>arg 4;simp only [hq]));clear hq))|((with_reducible first|refine c_split (fun hq=>?_) (fun hq=>?_)|refine q_split (fun hq=>?_) (fun hq=>?_))<;>(try first|(conv=>arg 8;simp only [hq])|(conv=>arg 4;simp only [hq])))|(with_reducible refine fin_0 ?_ (by first|rfl|(conv=>lhs;simp only [go_sem,List.getElem?_map,hx,Option.map_some])) ?_)|exact Sub.refl _|omega)
   refine c_doesE (hix) ?_ ?_ ?_
   ·((try (conv=>rhs;simp (disch:=omega) only [go_sem])); try rfl)
   ·first|rfl|(conv=>lhs;simp only [go_sem])
   repeat' (first|with_reducible refine acc_none ?_ | (conv in hold _=>simp (disch:=omega) only [go_sem])|refine Stp.go ?_|(with_reducible first|refine it_pos rfl ?_|refine it_neg (by decide) ?_|refine st_nil rfl ?_|refine s_op ?_ ?_|exact trivial)|((with_reducible first|refine dw_reg0 ?_|refine dw_regB ?_);(conv=>arg 3;whnf))|(refine Spl.go (fun hq he=>?_) (fun hq he=>?_)<;>first|(exfalso;clear hq;omega)|((try first|(conv=>arg 8;simp only [hq])|(conv=>arg 4;simp only [hq]));clear hq))|((with_reducible first|refine c_split (fun hq=>?_) (fun hq=>?_)|refine q_split (fun hq=>?_) (fun hq=>?_))<;>(try first|(conv=>arg 8;simp only [hq])|(conv=>arg 4;simp only [hq])))|(with_reducible refine fin_0 ?_ (by first|rfl|(conv=>lhs;simp only [go_sem])) ?_)|exact Sub.refl _|omega)
   refine ⟨hlt1,trivial,Wk.list [1000000,1000001,1000002,2000028] rfl rfl ?_⟩
   repeat' (first|(conv in hold _=>simp (disch:=omega) only [go_sem])|exact trivial|exact Sub.refl _|omega)
   rw [hmt,hnx,List.map_append,List.map_cons,List.map_nil,eD_eq x]
  ·have e1 : e.ks.take e.ks.length = e.ks:=List.take_length
   have e2 : (e.ks.map eD).take e.ks.length = e.ks.map eD:=List.take_of_length_le (by rw [List.length_map]; exact Nat.le_refl _)
   repeat' (first|with_reducible refine acc_none ?_ | (conv in hold _=>simp (disch:=omega) only [go_sem,e1])|refine Stp.go ?_|(with_reducible first|refine it_pos rfl ?_|refine it_neg (by decide) ?_|refine st_nil rfl ?_|refine s_op ?_ ?_|exact trivial)|((with_reducible first|refine dw_reg0 ?_|refine dw_regB ?_);(conv=>arg 3;whnf))|(refine Spl.go (fun hq he=>?_) (fun hq he=>?_)<;>first|(exfalso;clear hq;omega)|((try first|(conv=>arg 8;simp only [hq])|(conv=>arg 4;simp only [hq]));clear hq))|((with_reducible first|refine c_split (fun hq=>?_) (fun hq=>?_)|refine q_split (fun hq=>?_) (fun hq=>?_))<;>(try first|(conv=>arg 8;simp only [hq])|(conv=>arg 4;simp only [hq])))|exact Sub.refl _|omega)
   refine fin_wk (wk_frzO 1000001 1000003 (by decide) (by decide) rfl (by decide) rfl ?_) ?_
   rotate_left
   (conv in hold _=>simp (disch:=omega) only [go_sem,e2])
   ·refine fin_L [] ?_ ?_ rfl ?_
    repeat' (first|(conv in hold _=>simp (disch:=omega) only [go_sem])|exact trivial|exact Sub.refl _|omega)
   ·exact exprs_pur _
end Go.Proofs.YtgpdmgaemhelgaaGreat
