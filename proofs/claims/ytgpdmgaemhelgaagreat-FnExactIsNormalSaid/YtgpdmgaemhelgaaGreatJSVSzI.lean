/-
  The columns of expressions in the program. No condition.
-/
import Derived.Test.YtgpdmgaemhelgaaGreatKSDca
import Derived.Test.YtgpdmgaemhelgaaGreatKSDcb
import Derived.Test.YtgpdmgaemhelgaaGreatJSDch
import Derived.Test.YtgpdmgaemhelgaaGreatJSVEvI
import Derived.Test.YtgpdmgaemhelgaaGreatJSVCpE
import Derived.Test.YtgpdmgaemhelgaaGreatJSVVa
import Derived.Test.YtgpdmgaemhelgaaGreatJSVGo
import Derived.Test.YtgpdmgaemhelgaaGreatJSVClB
import Derived.Test.YtgpdmgaemhelgaaGreatJSVEvS
import Derived.Test.YtgpdmgaemhelgaaGreatKSDcd
import Derived.Test.YtgpdmgaemhelgaaGreatKSDcj
import Derived.Test.YtgpdmgaemhelgaaGreatJSDck
set_option maxHeartbeats 4000000
set_option maxRecDepth 100000
namespace Go.Proofs.YtgpdmgaemhelgaaGreat
open Go.RowKit
def useL (u : Nat → Bool) : List D:=(List.range 6).map fun j=>Bo (u j)
theorem useL_get {u : Nat → Bool} {i : Nat} (h : i < 6) : (useL u)[i]? = some (Bo (u i)):=by
 unfold useL
 rw [List.getElem?_map,List.getElem?_range h]
 rfl
theorem useL_len (u : Nat → Bool) : (useL u).length = 6:=by unfold useL; rw [List.length_map,List.length_range]
theorem useL_take (u : Nat → Bool) : (useL u).take 6 = useL u:=List.take_of_length_le (by rw [useL_len]; exact Nat.le_refl 6)
theorem useL_set {u : Nat → Bool} {i : Nat} {b : Bool} (h : i < 6) : (useL u).set i (Bo b) = useL fun j=>if j = i then b else u j:=by
 apply List.ext_getElem?
 intro j
 by_cases hj : j < 6
 ·rw [useL_get hj,List.getElem?_set,useL_len,useL_get hj]
  by_cases e : i = j
  ·subst e; rw [if_pos rfl,if_pos h,if_pos rfl]
  ·rw [if_neg e,if_neg (fun e'=>e e'.symm)]
 ·rw [List.getElem?_eq_none (by rw [List.length_set,useL_len]; omega),List.getElem?_eq_none (by rw [useL_len]; omega)]
theorem useL_pur (u : Nat → Bool) : D.purL (useL u) = true:=by rfl
theorem useL_ren (L : List Nat) (u : Nat → Bool) : D.renL L (useL u) = useL u:=ren_pure.renL_pure L _ (useL_pur u)
attribute [go_sem] Nat.mul_one useL_get useL_len useL_take useL_set useL_pur useL_ren
mutual
def occ : E → Nat → Bool
 | .mk k c _ ks,i=>(k == 1 && c == (i : Int)) || occL ks i
def occL : List E → Nat → Bool
 | [],_=>false
 | e :: l,i=>occ e i || occL l i
end
theorem occ_eq (e : E) (i : Nat) : occ e i = ((e.k == 1 && e.c == (i : Int)) || occL e.ks i):=by cases e; rfl
theorem occL_append : ∀ (l m : List E) (i : Nat),occL (l ++ m) i = (occL l i || occL m i)
 | [],m,i=>by rw [List.nil_append,occL,Bool.false_or]
 | e :: l,m,i=>by rw [List.cons_append,occL,occL,occL_append l m i,Bool.or_assoc]
theorem occL_next {es : List E} {i : Nat} {x : E} (h : es[i]? = some x) (j : Nat) : occL (es.take (i + 1)) j = (occL (es.take i) j || occ x j):=by
 rw [take_next h,occL_append,occL,occL,Bool.or_false]
def upto (e : E) (i : Nat) : Nat → Bool:=fun j=>(e.k == 1 && e.c == (j : Int)) || occL (e.ks.take i) j
def inner (e : E) (i : Nat) (x : E) (m : Nat) : Nat → Bool:=fun j=>upto e i j || (decide (j < m) && occ x j)
theorem inner_zero (e : E) (i : Nat) (x : E) : inner e i x 0 = upto e i:=by
 funext j
 simp [inner]
theorem inner_end {e : E} {i : Nat} {x : E} (h : e.ks[i]? = some x) : useL (inner e i x 6) = useL (upto e (i + 1)):=by
 unfold useL
 refine List.map_congr_left (fun j hj=>?_)
 have : j < 6:=List.mem_range.1 hj
 simp [inner,upto,occL_next h,this,Bool.or_assoc]
theorem inner_next (e : E) (i : Nat) (x : E) (m : Nat) : (fun j=>if j = m then (inner e i x m m || occ x m) else inner e i x m j) = inner e i x (m + 1):=by
 funext j
 by_cases h : j = m
 ·subst h; simp [inner]
 ·simp only [h,if_false,inner]
  have : decide (j < m + 1) = decide (j < m):=by congr 1; exact propext (by omega)
  rw [this]
theorem usedColumns_ok : ∀ (e : E) (d : Nat),eOk e 6 d → Does Tryz.prog 183 [] [eD e] (.agg (useL (occ e))) []:=by
 refine E.ind (fun e ih d h=>?_)
 have hl:=((eOk_iff e _ d).1 h).2.2.2
 have hkid:=((eOk_iff e _ d).1 h).2.2.1
 have hn2:=kidsN_le e.k
 have hlen:=((eOk_iff e _ d).1 h).1
 have hc : e.k = 1 → 0 ≤ e.c ∧ e.c ≤ 5:=fun hk=>by
  unfold leafOk at hl
  rw [if_pos hk] at hl
  omega
 have h0 : e.k = 1 → useL (fun j=>if j = e.c.toNat then true else false) = useL (upto e 0):=fun hk=>by
  have:=hc hk
  unfold useL
  refine List.map_congr_left (fun j _=>?_)
  have e1 : (e.c == (j : Int)) = decide (j = e.c.toNat):=by
   rw [Bool.eq_iff_iff,beq_iff_eq,decide_eq_true_iff]
   omega
  simp only [upto,hk,e1,occL,List.take_zero,beq_self_eq_true,Bool.true_and,Bool.or_false]
  by_cases hj : j = e.c.toNat <;> simp [hj]
 have h1 : ¬ e.k = 1 → useL (fun _=>false) = useL (upto e 0):=fun hk=>by
  unfold useL
  refine List.map_congr_left (fun j _=>?_)
  simp [upto,hk,occL]
 have hend : useL (upto e e.ks.length) = useL (occ e):=by
  unfold useL
  refine List.map_congr_left (fun j _=>?_)
  rw [upto,List.take_length,occ_eq]
 have hz : ∀ b : Bool,[D.v (.bool b),D.v (.bool b),D.v (.bool b),D.v (.bool b),D.v (.bool b),D.v (.bool b)] = useL (fun _=>b):=fun b=>rfl
 refine does0 c_Z57 mixed (Nat.le_of_ble_eq_true rfl) ?_
 conv=>arg 3; whnf
 repeat' (first|with_reducible refine acc_none ?_ | (conv in hold _=>simp (disch:=omega) only [go_sem,hz])|refine Stp.go ?_|(with_reducible first|refine it_pos rfl ?_|refine it_neg (by decide) ?_|refine st_nil rfl ?_|refine s_op ?_ ?_|exact trivial)|((with_reducible first|refine dw_reg0 ?_|refine dw_regB ?_);(conv=>arg 3;whnf))|(refine Spl.go (fun hq he=>?_) (fun hq he=>?_)<;>first|(exfalso;clear hq;omega)|((try first|(conv=>arg 8;simp only [hq])|(conv=>arg 4;simp only [hq]));clear hq))|((with_reducible first|refine c_split (fun hq=>?_) (fun hq=>?_)|refine q_split (fun hq=>?_) (fun hq=>?_))<;>(try first|(conv=>arg 8;simp only [hq])|(conv=>arg 4;simp only [hq])))|(with_reducible refine fin_0 ?_ (by first|rfl|(conv=>lhs;simp only [go_sem,hz])) ?_)|exact Sub.refl _|omega)
 all_goals
  refine dw_for (c:=2) (l:=fun i=>[(2,.ref 1000000 0),(3,.ref 1000001 0),(15,.sl 5 (e.ks.map eD)),(16,I e.ks.length),(17,I i),(1000000,.obj (useL fun _=>false)),(1000001,.obj (useL (upto e i)))]) e.ks.length (fun _=>True) 0 trivial (Wk.list [2000002,2000003] rfl rfl ?_) (fun i hi _=>?_) (Nat.zero_le _)
  ·repeat' (first|(conv in hold _=>simp (disch:=omega) only [go_sem,hz])|exact trivial|exact Sub.refl _|omega)
   first | exact ⟨rfl,congrArg D.obj (h0 he)⟩ | exact ⟨rfl,congrArg D.obj (h1 he)⟩
  ·rcases at_or_end hi with ⟨x,hx,hlt⟩ | rfl
   ·have hox:=ih x (List.mem_of_getElem? hx) (d - 1) (hkid x (List.mem_of_getElem? hx))
    refine go1 (cj2 @hz @hx) ?_
    refine Uc (cj2 @hz @useL_pur) (hox) (go1 (cj2 @hz @useL_pur) ?_)
    refine dw_for (c:=2) (l:=fun m=>[(2,.ref 1000000 0),(3,.ref 1000001 0),(15,.sl 5 (e.ks.map eD)),(16,I e.ks.length),(17,I i),(22,.agg (useL (occ x))),(23,I m),(1000000,.obj (useL fun _=>false)),(1000001,.obj (useL (inner e i x m)))]) 6 (fun _=>True) 0 trivial (Wk.list [1000000,1000001] rfl rfl ?_) (fun m hm _=>?_) (Nat.zero_le _)
    ·repeat' (first|(conv in hold _=>simp (disch:=omega) only [go_sem,hz])|exact trivial|exact Sub.refl _|omega)
     exact ⟨rfl,by rw [inner_zero]⟩
    ·by_cases hm6 : m < 6
     ·repeat' (first|with_reducible refine acc_none ?_ | (conv in hold _=>simp (disch:=omega) only [go_sem,hz])|refine Stp.go ?_|(with_reducible first|refine it_pos rfl ?_|refine it_neg (by decide) ?_|refine st_nil rfl ?_|refine s_op ?_ ?_|exact trivial)|((with_reducible first|refine dw_reg0 ?_|refine dw_regB ?_);(conv=>arg 3;whnf))|(refine Spl.go (fun hq he=>?_) (fun hq he=>?_)<;>first|(exfalso;clear hq;omega)|((try first|(conv=>arg 8;simp only [hq])|(conv=>arg 4;simp only [hq]));clear hq))|((with_reducible first|refine c_split (fun hq=>?_) (fun hq=>?_)|refine q_split (fun hq=>?_) (fun hq=>?_))<;>(try first|(conv=>arg 8;simp only [hq])|(conv=>arg 4;simp only [hq])))|(with_reducible refine fin_0 ?_ (by first|rfl|(conv=>lhs;simp only [go_sem,hz])) ?_)|exact Sub.refl _|omega)
      all_goals
       refine ⟨hm6,trivial,Wk.list [1000000,1000001] rfl rfl ?_⟩
       repeat' (first|(conv in hold _=>simp (disch:=omega) only [go_sem,hz])|exact trivial|exact Sub.refl _|omega)
       rw [← inner_next,hq]
       try rfl
     ·obtain rfl : m = 6:=by omega
      refine go1 @hz ?_
      refine ⟨hlt,trivial,Wk.list [1000000,1000001] rfl rfl ?_⟩
      repeat' (first|(conv in hold _=>simp (disch:=omega) only [go_sem,hz])|exact trivial|exact Sub.refl _|omega)
      rw [inner_end hx]
   ·refine go1 @hz ?_
    rw [hend]; exact Sub.refl _
end Go.Proofs.YtgpdmgaemhelgaaGreat
set_option maxHeartbeats 4000000
set_option maxRecDepth 100000
set_option linter.unusedVariables false
set_option linter.unusedSimpArgs false
namespace Go.Proofs.YtgpdmgaemhelgaaGreat
open Go.RowKit
def subOk (bs : List E) (w : Int) (e : E) : Prop:=((1 ≤ (bs.length : Int) ∧ (bs.length : Int) ≤ 6) ∧ eOk e bs.length 8) ∧ (∀ b,b ∈ bs → (1 ≤ w ∧ w ≤ 6) ∧ eOk b w 8) ∧ (1 ≤ w ∧ w ≤ 6) ∧ eOk (subE bs e) w 8
def zR : D:=.tup [eD zE,Bo false]
theorem zE_sub : Sub (.tup [.agg [I 0,I 0,Bo false,I 0,.nul],Bo false]) zR:=Sub.tup ⟨by rw [eD_eq]; exact Sub.agg ⟨Sub.refl _,Sub.refl _,Sub.refl _,Sub.refl _,Sub.nul 5,trivial⟩,Sub.refl _,trivial⟩
theorem zR_pur : zR.pur = true:=by unfold zR; rw [eD_eq]; rfl
theorem visitS_ok (bs : List E) (e : E) (h : e.k = 1 → (0 ≤ e.c ∧ e.c < bs.length) ∧ ∀ b,b ∈ bs → esz b ≤ 800000) : Does Tryz.prog 234 [] [.agg [.sl 5 (bs.map eD)],eD e] (eD (visE bs e)) []:=by
 by_cases hk : e.k = 1
 ·obtain ⟨hc,hb⟩:=h hk
  obtain ⟨b,hbe⟩ : ∃ b,bs[e.c.toNat]? = some b:=⟨_,List.getElem?_eq_getElem (show e.c.toNat < bs.length by omega)⟩
  have hcl:=cloneExpr_ok b (hb b (List.mem_of_getElem? hbe))
  have hv : visE bs e = b:=by rw [visE,if_pos hk,List.getD_eq_getElem?_getD,hbe]; rfl
  rw [hv]
  refine Bg c_Z17 mixed (go1 @hbe ?_)
  exact Uc trivial (hcl) (go0 trivial)
 ·have hv : visE bs e = e:=by rw [visE,if_neg hk]
  rw [hv]
  exact Bg c_Z17 mixed (go0 trivial)
theorem rewriteS_ok (bs : List E) (hb : ∀ b,b ∈ bs → esz b ≤ 800000) : ∀ (e : E) (d : Nat),eOk e bs.length d → Does Tryz.prog 165 [] [eD e,.ifc 191 (.agg [.sl 5 (bs.map eD)])] (eD (subE bs e)) []:=by
 refine E.ind (fun e ih d h=>?_)
 have h1:=(eOk_iff e _ d).1 h
 have hn2:=kidsN_le e.k
 have hlen : e.ks.length ≤ 2:=by omega
 have hm : methOf Tryz.prog 191 name_impl_visit = some 234:=by kernel_rfl
 have hv:=visitS_ok bs (.mk e.k e.c e.v (subL bs e.ks)) (fun hk=>⟨by
  have hl:=h1.2.2.2
  unfold leafOk at hl
  rw [if_pos (show e.k = 1 from hk)] at hl
  exact ⟨hl.1,by show e.c < _; omega⟩,hb⟩)
 rw [← subE_vis,eD_eq] at hv
 have hfl:=subL_map bs e.ks
 have hll : (subL bs e.ks).length = e.ks.length:=by rw [hfl,List.length_map]
 refine Bg c_Z53 mixed (go1 trivial ?_)
 refine dw_for (c:=3) (l:=fun i=>[(1,.ifc 191 (.agg [.sl 5 (bs.map eD)])),(2,.ref 1000000 0),(4,.ref 1000001 0),(5,.own 1000002 5 i),(9,.sl 5 (e.ks.map eD)),(10,I e.ks.length),(11,I i),(1000000,.obj [I e.k,I e.c,Bo e.v.b,I e.v.n,.sl 5 (e.ks.map eD)]),(1000001,.obj [I 0,I 0,Bo false,I 0,.nul]),(1000002,.row 5 (((subL bs e.ks).take i).map eD))]) e.ks.length (fun _=>True) 0 trivial ((wk_row 5 2000020 5 (by decide) (by decide) rfl rfl).trans (Wk.list [2000002,2000004,2000020] rfl rfl ?_)) (fun i hi _=>?_) (Nat.zero_le _)
 ·repeat' (first|(conv in hold _=>simp (disch:=omega) only [go_sem])|exact trivial|exact Sub.refl _|omega)
  exact rfl
 ·have hlt:=take_len (vs:=subL bs e.ks) (i:=i) (by omega)
  have hmt:=take_map eD (vs:=subL bs e.ks) (i:=i) (by omega)
  rcases at_or_end hi with ⟨x,hx,hlt1⟩ | rfl
  ·have hix:=ih x (List.mem_of_getElem? hx) (d - 1) (h1.2.2.1 x (List.mem_of_getElem? hx))
   have hfx : (subL bs e.ks)[i]? = some (subE bs x):=by rw [hfl,List.getElem?_map,hx]; rfl
   have hnx:=take_next hfx
   refine go1 @hx ?_
   refine Uc trivial (hix) (go1 trivial ?_)
   refine ⟨hlt1,trivial,Wk.list [1000000,1000001,2000020] rfl rfl ?_⟩
   repeat' (first|(conv in hold _=>simp (disch:=omega) only [go_sem])|exact trivial|exact Sub.refl _|omega)
   rw [hmt,hnx,List.map_append,List.map_cons,List.map_nil,eD_eq (subE bs x)]
  ·have e1 : (subL bs e.ks).take e.ks.length = subL bs e.ks:=List.take_of_length_le (by omega)
   have e2 : ((subL bs e.ks).map eD).take e.ks.length = (subL bs e.ks).map eD:=List.take_of_length_le (by rw [List.length_map]; omega)
   refine go1C @e1 ?_
   refine s_pre (pre_frz (t:=25) (g:=1000002) (by decide) (by decide) rfl ?_) ?_
   rotate_left
   refine go1 (cj3 @e1 @e2 @hll) ?_
   refine i_meth (hm) ?_
   exact Uc (cj2 @e2 @hll) (hv) (go0 (cj2 @e2 @hll))
   exact exprs_pur _
theorem Substitute_impl (bs : List E) (w : Int) (e : E) (hn : bs.length ≤ 1000) : (subOk bs w e → Does Tryz.prog 170 [] [eD e,.sl 5 (bs.map eD),I w] (.tup [eD (subE bs e),Bo true]) []) ∧ (¬ subOk bs w e → Does Tryz.prog 170 [] [eD e,.sl 5 (bs.map eD),I w] zR []):=by
 have hve:=implValidExpr_ok e bs.length
 suffices hh : ∀ r : D,(subOk bs w e → r = .tup [eD (subE bs e),Bo true]) → (¬ subOk bs w e → r = zR) → Does Tryz.prog 170 [] [eD e,.sl 5 (bs.map eD),I w] r [] from
  ⟨fun h=>hh _ (fun _=>rfl) (fun h'=>absurd h h'),fun h=>hh _ (fun h'=>absurd h' h) (fun _=>rfl)⟩
 intro r hy hno
 by_cases h1 : (1 ≤ (bs.length : Int) ∧ (bs.length : Int) ≤ 6) ∧ eOk e bs.length 8
 ·rw [decide_eq_true h1] at hve
  refine Bg c_Z64 mixed (go1 trivial ?_)
  refine Uc trivial (hve) (go1 trivial ?_)
  refine dw_for (c:=2) (l:=fun i=>[(1,.sl 5 (bs.map eD)),(2,I w),(3,.ref 1000000 0),(6,.ref 1000001 0),(7,Bo false),(17,.sl 5 (bs.map eD)),(18,I bs.length),(19,I i),(1000000,.obj [I e.k,I e.c,Bo e.v.b,I e.v.n,.sl 5 (e.ks.map eD)]),(1000001,.obj [I 0,I 0,Bo false,I 0,.nul])]) bs.length (fun i=>∀ (j : Nat) (b : E),j < i → bs[j]? = some b → (1 ≤ w ∧ w ≤ 6) ∧ eOk b w 8) 0 (by omega) (Wk.list [2000003,2000006] rfl rfl ?_) (fun i hi hJ=>?_) (Nat.zero_le _)
  ·repeat' (first|(conv in hold _=>simp (disch:=omega) only [go_sem])|exact trivial|exact Sub.refl _|omega)
   exact rfl
  ·rcases at_or_end hi with ⟨x,hx,hlt1⟩ | rfl
   ·have hvx:=implValidExpr_ok x w
    by_cases hxo : (1 ≤ w ∧ w ≤ 6) ∧ eOk x w 8
    ·rw [decide_eq_true hxo] at hvx
     refine go1 @hx ?_
     refine Uc trivial (hvx) (go1 trivial ?_)
     refine ⟨hlt1,upto_next (p:=fun b=>(1 ≤ w ∧ w ≤ 6) ∧ eOk b w 8) hx hJ hxo,Wk.list [1000000,1000001] rfl rfl ?_⟩
     repeat' (first|(conv in hold _=>simp (disch:=omega) only [go_sem])|exact trivial|exact Sub.refl _|omega)
    ·rw [decide_eq_false hxo] at hvx
     rw [hno (fun h=>hxo (h.2.1 x (List.mem_of_getElem? hx)))]
     refine go1 @hx ?_
     refine Uc @zR_pur (hvx) (go1 @zR_pur ?_)
     exact zE_sub
   ·have hall:=upto_all (p:=fun b=>(1 ≤ w ∧ w ≤ 6) ∧ eOk b w 8) hJ
    have hw : 1 ≤ w ∧ w ≤ 6:=by
     obtain ⟨b,hb⟩ : ∃ b,bs[0]? = some b:=⟨_,List.getElem?_eq_getElem (by omega)⟩
     exact (hall b (List.mem_of_getElem? hb)).1
    have hrw:=rewriteS_ok bs (fun b hb=>by have:=esz_small b 8 (hall b hb).2 (by decide); omega) e 8 h1.2
    have hvr:=implValidExpr_ok (subE bs e) w
    by_cases hro : eOk (subE bs e) w 8
    ·rw [decide_eq_true ⟨hw,hro⟩] at hvr
     rw [hy ⟨h1,hall,hw,hro⟩]
     refine go1 trivial ?_
     refine Uc trivial (hrw) (go1 trivial ?_)
     exact Uc trivial (hvr) (go0 trivial)
    ·rw [decide_eq_false (fun h=>hro h.2)] at hvr
     rw [hno (fun h=>hro h.2.2.2)]
     refine go1 trivial ?_
     refine Uc trivial (hrw) (go1 trivial ?_)
     refine Uc @zR_pur (hvr) (go1 @zR_pur ?_)
     exact zE_sub
 ·rw [decide_eq_false h1] at hve
  rw [hno (fun h=>h1 h.1)]
  refine Bg c_Z64 mixed (go1 trivial ?_)
  refine Uc @zR_pur (hve) (go1 @zR_pur ?_)
  exact zE_sub
end Go.Proofs.YtgpdmgaemhelgaaGreat
set_option maxHeartbeats 4000000
set_option maxRecDepth 100000
set_option linter.unusedVariables false
set_option linter.unusedSimpArgs false
namespace Go.Proofs.YtgpdmgaemhelgaaGreat
open Go.RowKit
def eC (a : E) : List D:=[I a.k,I a.c,Bo a.v.b,I a.v.n,.sl 5 (a.ks.map eD)]
theorem eD_eC (a : E) : eD a = .agg (eC a):=eD_eq a
theorem leafC (c : Int) : SubL [I 1,I c,Bo false,I 0,.nul] (eC (.mk 1 c ⟨false,0⟩ [])):=⟨Sub.refl _,Sub.refl _,Sub.refl _,Sub.refl _,Sub.nul 5,trivial⟩
end Go.Proofs.YtgpdmgaemhelgaaGreat
set_option maxHeartbeats 4000000
set_option maxRecDepth 100000
namespace Go.Proofs.YtgpdmgaemhelgaaGreat
open Go.RowKit
theorem szIntS_ok (l : List Int) (hl : l.length ≤ big) (left : Int) (h0 : 0 ≤ left) (h1 : left ≤ 1048576) : Does Tryz.prog 71 [] [intsD l,I left] (I (szV l.length left)) []:=by
 unfold big at hl
 by_cases hf : (l.length : Int) ≤ left
 ·rw [szV_t hf]
  refine does0 c_Z143 mixed (Nat.le_of_ble_eq_true rfl) ?_
  conv=>arg 3; whnf
  repeat' (first|with_reducible refine acc_none ?_ | (conv in hold _=>simp (disch:=omega) only [go_sem,intsD])|refine Stp.go ?_|(with_reducible first|refine it_pos rfl ?_|refine it_neg (by decide) ?_|refine st_nil rfl ?_|refine s_op ?_ ?_|exact trivial)|((with_reducible first|refine dw_reg0 ?_|refine dw_regB ?_);(conv=>arg 3;whnf))|(refine Spl.go (fun hq he=>?_) (fun hq he=>?_)<;>first|(exfalso;clear hq;omega)|((try first|(conv=>arg 8;simp only [hq])|(conv=>arg 4;simp only [hq]));clear hq))|((with_reducible first|refine c_split (fun hq=>?_) (fun hq=>?_)|refine q_split (fun hq=>?_) (fun hq=>?_))<;>(try first|(conv=>arg 8;simp only [hq])|(conv=>arg 4;simp only [hq])))|(with_reducible refine fin_0 ?_ (by first|rfl|(conv=>lhs;simp only [go_sem,intsD])) ?_)|exact Sub.refl _|omega)
 ·rw [szV_f hf]
  refine does0 c_Z143 mixed (Nat.le_of_ble_eq_true rfl) ?_
  conv=>arg 3; whnf
  repeat' (first|with_reducible refine acc_none ?_ | (conv in hold _=>simp (disch:=omega) only [go_sem,intsD])|refine Stp.go ?_|(with_reducible first|refine it_pos rfl ?_|refine it_neg (by decide) ?_|refine st_nil rfl ?_|refine s_op ?_ ?_|exact trivial)|((with_reducible first|refine dw_reg0 ?_|refine dw_regB ?_);(conv=>arg 3;whnf))|(refine Spl.go (fun hq he=>?_) (fun hq he=>?_)<;>first|(exfalso;clear hq;omega)|((try first|(conv=>arg 8;simp only [hq])|(conv=>arg 4;simp only [hq]));clear hq))|((with_reducible first|refine c_split (fun hq=>?_) (fun hq=>?_)|refine q_split (fun hq=>?_) (fun hq=>?_))<;>(try first|(conv=>arg 8;simp only [hq])|(conv=>arg 4;simp only [hq])))|(with_reducible refine fin_0 ?_ (by first|rfl|(conv=>lhs;simp only [go_sem,intsD])) ?_)|exact Sub.refl _|omega)
theorem toIntS_ok (l : List Int) (hlen : l.length ≤ 1048576) : Does Tryz.prog 43 [] [intsD l] (intsD l) []:=by
 have hz:=fil_zero I (I 0) l
 have hren:=fil_ren I (I 0) (fun _=>rfl) rfl l
 refine does0 c_Z147 mixed (Nat.le_of_ble_eq_true rfl) ?_
 conv=>arg 3; whnf
 repeat' (first|with_reducible refine acc_none ?_ | (conv in hold _=>simp (disch:=omega) only [go_sem,intsD])|refine Stp.go ?_|(with_reducible first|refine it_pos rfl ?_|refine it_neg (by decide) ?_|refine st_nil rfl ?_|refine s_op ?_ ?_|exact trivial)|((with_reducible first|refine dw_reg0 ?_|refine dw_regB ?_);(conv=>arg 3;whnf))|(refine Spl.go (fun hq he=>?_) (fun hq he=>?_)<;>first|(exfalso;clear hq;omega)|((try first|(conv=>arg 8;simp only [hq])|(conv=>arg 4;simp only [hq]));clear hq))|((with_reducible first|refine c_split (fun hq=>?_) (fun hq=>?_)|refine q_split (fun hq=>?_) (fun hq=>?_))<;>(try first|(conv=>arg 8;simp only [hq])|(conv=>arg 4;simp only [hq])))|(with_reducible refine fin_0 ?_ (by first|rfl|(conv=>lhs;simp only [go_sem,intsD])) ?_)|exact Sub.refl _|omega)
 refine dw_for (c:=1) (l:=fun i=>[(0,intsD l),(3,.own 1000000 1 l.length),(4,I i),(1000000,.row 1 (fil I (I 0) l i))]) l.length (fun _=>True) 0 trivial (Wk.list [2000007] rfl rfl ?_) (fun i hi _=>?_) (Nat.zero_le _)
 ·repeat' (first|(conv in hold _=>simp (disch:=omega) only [go_sem,intsD,hren])|exact trivial|exact Sub.refl _|omega)
  rw [hz]
  exact ⟨rfl,rfl⟩
 ·have hfl:=fil_len I (I 0) l hi
  have hft:=fil_take I (I 0) l hi
  rcases at_or_end hi with ⟨x,hx,hlt⟩ | rfl
  ·have hst:=fil_set I (I 0) hx
   have hgi : (fil I (I 0) l i)[i]? = some (I 0):=fil_get I (I 0) hlt
   repeat' (first|with_reducible refine acc_none ?_ | (conv in hold _=>simp (disch:=omega) only [go_sem,intsD,List.getElem?_map,hx,Option.map_some,hfl,hft,hgi])|refine Stp.go ?_|(with_reducible first|refine it_pos rfl ?_|refine it_neg (by decide) ?_|refine st_nil rfl ?_|refine s_op ?_ ?_|exact trivial)|((with_reducible first|refine dw_reg0 ?_|refine dw_regB ?_);(conv=>arg 3;whnf))|(refine Spl.go (fun hq he=>?_) (fun hq he=>?_)<;>first|(exfalso;clear hq;omega)|((try first|(conv=>arg 8;simp only [hq])|(conv=>arg 4;simp only [hq]));clear hq))|((with_reducible first|refine c_split (fun hq=>?_) (fun hq=>?_)|refine q_split (fun hq=>?_) (fun hq=>?_))<;>(try first|(conv=>arg 8;simp only [hq])|(conv=>arg 4;simp only [hq])))|(with_reducible refine fin_0 ?_ (by first|rfl|(conv=>lhs;simp only [go_sem,intsD,List.getElem?_map,hx,Option.map_some,hfl,hft,hgi])) ?_)|exact Sub.refl _|omega)
   refine ⟨hlt,trivial,Wk.list [1000000] rfl rfl ?_⟩
   repeat' (first|(conv in hold _=>simp (disch:=omega) only [go_sem,intsD,hst,hren])|exact trivial|exact Sub.refl _|omega)
  ·have he:=fil_end I (I 0) l
   repeat' (first|with_reducible refine acc_none ?_ | (conv in hold _=>simp (disch:=omega) only [go_sem,intsD,he])|refine Stp.go ?_|(with_reducible first|refine it_pos rfl ?_|refine it_neg (by decide) ?_|refine st_nil rfl ?_|refine s_op ?_ ?_|exact trivial)|((with_reducible first|refine dw_reg0 ?_|refine dw_regB ?_);(conv=>arg 3;whnf))|(refine Spl.go (fun hq he=>?_) (fun hq he=>?_)<;>first|(exfalso;clear hq;omega)|((try first|(conv=>arg 8;simp only [hq])|(conv=>arg 4;simp only [hq]));clear hq))|((with_reducible first|refine c_split (fun hq=>?_) (fun hq=>?_)|refine q_split (fun hq=>?_) (fun hq=>?_))<;>(try first|(conv=>arg 8;simp only [hq])|(conv=>arg 4;simp only [hq])))|exact Sub.refl _|omega)
   refine fin_wk (wk_frz 2 1000000 (by decide) (by decide) rfl ?_) ?_
   rotate_left
   (conv in hold _=>simp (disch:=omega) only [go_sem,intsD,hft,he,hfl])
   ·refine fin_L [] ?_ ?_ rfl ?_
    repeat' (first|(conv in hold _=>simp (disch:=omega) only [go_sem,intsD])|exact trivial|exact Sub.refl _|omega)
   ·exact D.purL_iff.2 (fun d hd=>by obtain ⟨x,_,rfl⟩:=List.mem_map.1 hd; rfl)
theorem eqIntS_ok (l : List Int) (hlen : l.length ≤ 1048576) : Does Tryz.prog 46 [] [intsD l,intsD l] (Bo true) []:=by
 refine does0 c_Z139 mixed (Nat.le_of_ble_eq_true rfl) ?_
 conv=>arg 3; whnf
 repeat' (first|with_reducible refine acc_none ?_ | (conv in hold _=>simp (disch:=omega) only [go_sem,intsD,beq_self_eq_true,bne_self_eq_false])|refine Stp.go ?_|(with_reducible first|refine it_pos rfl ?_|refine it_neg (by decide) ?_|refine st_nil rfl ?_|refine s_op ?_ ?_|exact trivial)|((with_reducible first|refine dw_reg0 ?_|refine dw_regB ?_);(conv=>arg 3;whnf))|(refine Spl.go (fun hq he=>?_) (fun hq he=>?_)<;>first|(exfalso;clear hq;omega)|((try first|(conv=>arg 8;simp only [hq])|(conv=>arg 4;simp only [hq]));clear hq))|((with_reducible first|refine c_split (fun hq=>?_) (fun hq=>?_)|refine q_split (fun hq=>?_) (fun hq=>?_))<;>(try first|(conv=>arg 8;simp only [hq])|(conv=>arg 4;simp only [hq])))|(with_reducible refine fin_0 ?_ (by first|rfl|(conv=>lhs;simp only [go_sem,intsD,beq_self_eq_true,bne_self_eq_false])) ?_)|exact Sub.refl _|omega)
 refine dw_for (c:=0) (l:=fun i=>[(0,intsD l),(1,intsD l),(5,I i)]) l.length (fun _=>True) 0 trivial (Wk.list [] rfl rfl ?_) (fun i hi _=>?_) (Nat.zero_le _)
 ·repeat' (first|(conv in hold _=>simp (disch:=omega) only [go_sem,intsD,beq_self_eq_true,bne_self_eq_false])|exact trivial|exact Sub.refl _|omega)
  exact rfl
 ·rcases at_or_end hi with ⟨x,hx,hlt⟩ | rfl
  ·repeat' (first|with_reducible refine acc_none ?_ | (conv in hold _=>simp (disch:=omega) only [go_sem,intsD,beq_self_eq_true,bne_self_eq_false,List.getElem?_map,hx,Option.map_some])|refine Stp.go ?_|(with_reducible first|refine it_pos rfl ?_|refine it_neg (by decide) ?_|refine st_nil rfl ?_|refine s_op ?_ ?_|exact trivial)|((with_reducible first|refine dw_reg0 ?_|refine dw_regB ?_);(conv=>arg 3;whnf))|(refine Spl.go (fun hq he=>?_) (fun hq he=>?_)<;>first|(exfalso;clear hq;omega)|((try first|(conv=>arg 8;simp only [hq])|(conv=>arg 4;simp only [hq]));clear hq))|((with_reducible first|refine c_split (fun hq=>?_) (fun hq=>?_)|refine q_split (fun hq=>?_) (fun hq=>?_))<;>(try first|(conv=>arg 8;simp only [hq])|(conv=>arg 4;simp only [hq])))|(with_reducible refine fin_0 ?_ (by first|rfl|(conv=>lhs;simp only [go_sem,intsD,beq_self_eq_true,bne_self_eq_false,List.getElem?_map,hx,Option.map_some])) ?_)|exact Sub.refl _|omega)
   refine ⟨hlt,trivial,Wk.list [] rfl rfl ?_⟩
   repeat' (first|(conv in hold _=>simp (disch:=omega) only [go_sem,intsD,beq_self_eq_true,bne_self_eq_false])|exact trivial|exact Sub.refl _|omega)
  ·repeat' (first|with_reducible refine acc_none ?_ | (conv in hold _=>simp (disch:=omega) only [go_sem,intsD,beq_self_eq_true,bne_self_eq_false])|refine Stp.go ?_|(with_reducible first|refine it_pos rfl ?_|refine it_neg (by decide) ?_|refine st_nil rfl ?_|refine s_op ?_ ?_|exact trivial)|((with_reducible first|refine dw_reg0 ?_|refine dw_regB ?_);(conv=>arg 3;whnf))|(refine Spl.go (fun hq he=>?_) (fun hq he=>?_)<;>first|(exfalso;clear hq;omega)|((try first|(conv=>arg 8;simp only [hq])|(conv=>arg 4;simp only [hq]));clear hq))|((with_reducible first|refine c_split (fun hq=>?_) (fun hq=>?_)|refine q_split (fun hq=>?_) (fun hq=>?_))<;>(try first|(conv=>arg 8;simp only [hq])|(conv=>arg 4;simp only [hq])))|(with_reducible refine fin_0 ?_ (by first|rfl|(conv=>lhs;simp only [go_sem,intsD,beq_self_eq_true,bne_self_eq_false])) ?_)|exact Sub.refl _|omega)
end Go.Proofs.YtgpdmgaemhelgaaGreat
