/-
  The states of an expression, in both packages. No condition.
-/
import Derived.Test.YtefldihjbaodnaaGreatJSVPiB
import Derived.Test.YtefldihjbaodnaaGreatKSDca
import Derived.Test.YtefldihjbaodnaaGreatKSDcd
import Derived.Test.YtefldihjbaodnaaGreatJSVPlan
import Derived.Test.YtefldihjbaodnaaGreatJSVGo
set_option maxHeartbeats 4000000
set_option maxRecDepth 100000
set_option linter.unusedVariables false
set_option linter.unusedSimpArgs false
namespace Go.Proofs.YtefldihjbaodnaaGreat
open Go.RowKit
theorem stV_range (v : V) : 0 ≤ stV v ∧ stV v ≤ 7:=by
 unfold stV
 repeat' split
 all_goals decide
def anyN (a : Int) : Bool:=intBit .and .i64 a 3 != 0
def hasN (a b : Int) : Bool:=intBit .and .i64 (intBit .or .i64 a b) 4 != 0
def bnS (k a b : Int) : Int:=
 if k = 8 then tsI min a b else if k = 9 then tsI max a b else
 if anyN a && anyN b then (if 6 ≤ k then (if hasN a b then 7 else 3) else 7) else (if hasN a b then 4 else 0)
mutual
def oc : E → List Int → Int
 | .mk k c v ks,ss=>if k = 1 then ss.getD c.toNat 0 else if k = 2 then stV v else
  match ocL ks ss with
  | []=>0
  | a :: l=>if k = 10 then neg a else if k = 11 then ntV a else bnS k a (l.headD 0)
def ocL : List E → List Int → List Int
 | [],_=>[]
 | e :: l,ss=>oc e ss :: ocL l ss
end
theorem ocL_map : ∀ (l : List E) (ss : List Int),ocL l ss = l.map (fun e=>oc e ss)
 | [],_=>by rw [ocL]; rfl
 | e :: l,ss=>by rw [ocL,ocL_map l]; rfl
theorem oc_col {e : E} {ss : List Int} {s : Int} (h : e.k = 1) (hs : ss[e.c.toNat]? = some s) : oc e ss = s:=by
 cases e with
 | mk k c u ks=>
  have h : k = 1:=h
  rw [oc,if_pos h,List.getD_eq_getElem?_getD,show ss[c.toNat]? = some s from hs]
  rfl
theorem oc_const {e : E} {ss : List Int} (h : e.k = 2) : oc e ss = stV e.v:=by
 cases e with
 | mk k c u ks=>
  have h : k = 2:=h
  rw [oc,if_neg (by omega),if_pos h]
  rfl
theorem oc_not {e a : E} {ss : List Int} (h : e.k = 10) (hk : e.ks = [a]) : oc e ss = neg (oc a ss):=by
 cases e with
 | mk k c u ks=>
  have h : k = 10:=h
  have hk : ks = [a]:=hk
  subst hk
  rw [oc,if_neg (by omega),if_neg (by omega),ocL_map]
  exact if_pos h
theorem oc_null {e a : E} {ss : List Int} (h : e.k = 11) (hk : e.ks = [a]) : oc e ss = ntV (oc a ss):=by
 cases e with
 | mk k c u ks=>
  have hk' : k = 11:=h
  have hk : ks = [a]:=hk
  subst hk
  rw [oc,if_neg (by omega),if_neg (by omega),ocL_map]
  show (if k = 10 then _ else if k = 11 then _ else _) = _
  rw [if_neg (by omega),if_pos hk']
theorem oc_two {e a b : E} {ss : List Int} (h1 : ¬ e.k = 1) (h2 : ¬ e.k = 2) (h10 : ¬ e.k = 10) (h11 : ¬ e.k = 11) (hk : e.ks = [a,b]) : oc e ss = bnS e.k (oc a ss) (oc b ss):=by
 cases e with
 | mk k c u ks=>
  have hk : ks = [a,b]:=hk
  subst hk
  have h1 : ¬ k = 1:=h1
  have h2 : ¬ k = 2:=h2
  have h10 : ¬ k = 10:=h10
  have h11 : ¬ k = 11:=h11
  rw [oc,if_neg h1,if_neg h2,ocL_map]
  show (if k = 10 then _ else if k = 11 then _ else _) = _
  rw [if_neg h10,if_neg h11]
  rfl
theorem hasN_0 {a b : Int} (h : intBit .and .i64 (intBit .or .i64 a b) 4 = 0) : hasN a b = false:=by unfold hasN; rw [h]; rfl
theorem hasN_4 {a b : Int} (h : intBit .and .i64 (intBit .or .i64 a b) 4 = 4) : hasN a b = true:=by unfold hasN; rw [h]; rfl
theorem any_both {a b : Int} (h : both a b) : (anyN a && anyN b) = true:=by unfold anyN; rw [Bool.and_eq_true,bne_iff_ne,bne_iff_ne]; exact h
theorem any_not {a b : Int} (h : ¬ both a b) : (anyN a && anyN b) = false:=by
 rw [Bool.eq_false_iff]
 unfold anyN
 rw [ne_eq,Bool.and_eq_true,bne_iff_ne,bne_iff_ne]
 exact h
theorem bnS_8 {k a b : Int} (h : k = 8) : bnS k a b = tsI min a b:=if_pos h
theorem bnS_9 {k a b : Int} (h : k = 9) : bnS k a b = tsI max a b:=by unfold bnS; rw [if_neg (by omega),if_pos h]
theorem bnS_b0 {k a b : Int} (h8 : ¬ k = 8) (h9 : ¬ k = 9) (hb : both a b) (h6 : 6 ≤ k) (hr : intBit .and .i64 (intBit .or .i64 a b) 4 = 0) : bnS k a b = 3:=by
 unfold bnS
 rw [if_neg h8,if_neg h9,any_both hb,if_pos rfl,if_pos h6,hasN_0 hr]
 rfl
theorem bnS_b4 {k a b : Int} (h8 : ¬ k = 8) (h9 : ¬ k = 9) (hb : both a b) (h6 : 6 ≤ k) (hr : intBit .and .i64 (intBit .or .i64 a b) 4 = 4) : bnS k a b = 7:=by
 unfold bnS
 rw [if_neg h8,if_neg h9,any_both hb,if_pos rfl,if_pos h6,hasN_4 hr]
 rfl
theorem bnS_ba {k a b : Int} (h8 : ¬ k = 8) (h9 : ¬ k = 9) (hb : both a b) (h6 : ¬ 6 ≤ k) : bnS k a b = 7:=by
 unfold bnS
 rw [if_neg h8,if_neg h9,any_both hb,if_pos rfl,if_neg h6]
theorem bnS_n0 {k a b : Int} (h8 : ¬ k = 8) (h9 : ¬ k = 9) (hb : ¬ both a b) (hr : intBit .and .i64 (intBit .or .i64 a b) 4 = 0) : bnS k a b = 0:=by
 unfold bnS
 rw [if_neg h8,if_neg h9,any_not hb,if_neg (by decide),hasN_0 hr]
 rfl
theorem bnS_n4 {k a b : Int} (h8 : ¬ k = 8) (h9 : ¬ k = 9) (hb : ¬ both a b) (hr : intBit .and .i64 (intBit .or .i64 a b) 4 = 4) : bnS k a b = 4:=by
 unfold bnS
 rw [if_neg h8,if_neg h9,any_not hb,if_neg (by decide),hasN_4 hr]
 rfl
end Go.Proofs.YtefldihjbaodnaaGreat
set_option maxHeartbeats 4000000
set_option maxRecDepth 100000
set_option linter.unusedVariables false
set_option linter.unusedSimpArgs false
namespace Go.Proofs.YtefldihjbaodnaaGreat
open Go.RowKit
theorem defR_ok (w : Nat) : (List.replicate w (⟨false,0⟩ : V)).length = w ∧ ∀ v,v ∈ List.replicate w (⟨false,0⟩ : V) → v.ok:=⟨List.length_replicate ..,fun v hv=>by
 rw [(List.mem_replicate.1 hv).2]
 exact ⟨by decide,by decide,fun h=>by cases h⟩⟩
theorem termOf_w {w : Nat} {e : E} (he : eOk e w 8) : ∃ t e0,tD e = .ifc t e0 ∧ e0.pur = true ∧ Does Tryz.prog 113 [] [eD e] (.ifc t e0) []:=by
 have h0:=defR_ok w
 obtain ⟨h1,t,e0,f,hd,hp0,hm,hv⟩:=termOf_ok h0.2 e 8 (by rw [h0.1]; exact he)
 exact ⟨t,e0,hd,hp0,by rw [← hd]; exact h1⟩
theorem tD_pur {w : Nat} {e : E} (he : eOk e w 8) : (tD e).pur = true:=by
 obtain ⟨t,e0,hd,hp,_⟩:=termOf_w he
 rw [hd]
 exact hp
theorem terms_pur {w : Nat} : ∀ {es : List E},(∀ e,e ∈ es → eOk e w 8) → D.purL (es.map tD) = true
 | [],_=>rfl
 | e :: es,h=>by
  rw [List.map_cons,D.purL,tD_pur (h e (List.mem_cons_self ..)),terms_pur (fun e he=>h e (List.mem_cons_of_mem _ he))]
  rfl
theorem projectedRows_ok {w : Nat} (rs : List (List V)) (es : List E) (hel : es.length ≤ 1000) (hes : ∀ e,e ∈ es → eOk e w 8) :
  Does Tryz.prog 114 [] [rowsD rs,.sl 5 (es.map eD)] (.fn 158 [.ptr [rowsD rs],.ptr [.sl 1 (es.map tD)]]) []:=by
 have htl2:=take_all tD es
 refine Bg c_Z72 mixed (go1 trivial ?_)
 refine dw_for (c:=3) (l:=fun i=>[(2,.ref 1000000 0),(5,.ref 1000001 0),(8,.sl 5 (es.map eD)),(9,I es.length),(10,I i),(1000000,.obj [rowsD rs]),(1000001,.obj [.own 1000002 1 i]),(1000002,.row 1 ((es.take i).map tD))]) es.length (fun _=>True) 0 trivial ((wk_rowO 2000005 2000090 1 0 (by decide) (by decide) (by decide) rfl rfl rfl).trans (Wk.list [2000002,2000005,2000090] rfl rfl ?_)) (fun i hi _=>?_) (Nat.zero_le _)
 ·repeat' (first|(conv in hold _=>simp (disch:=omega) only [go_sem])|exact trivial|exact Sub.refl _|omega)
  first | exact rfl | exact ⟨rfl,rfl⟩ | exact ⟨rfl,rfl,rfl⟩
 ·have htl:=take_len (vs:=es) (i:=i) hi
  have hmk:=take_map tD (vs:=es) (i:=i) hi
  rcases at_or_end hi with ⟨x,hx,hlt⟩ | rfl
  ·obtain ⟨t,e0,hd,hp,h1⟩:=termOf_w (hes x (List.mem_of_getElem? hx))
   have hnx:=take_next hx
   have hren:=fun L=>ren_pure L _ hp
   refine go1 @hx ?_
   refine Uc (cj2 @hp @hren) (h1) (go1 (cj2 @hp @hren) ?_)
   refine ⟨hlt,trivial,Wk.list [1000000,1000001,2000018] rfl rfl ?_⟩
   repeat' (first|(conv in hold _=>simp (disch:=omega) only [go_sem,List.length_map,htl,hren])|exact trivial|exact Sub.refl _|omega)
   have hrl:=fun L=>ren_pure.renL_pure L _ (terms_pur (es:=es.take (i + 1)) (fun e he=>hes e (List.mem_of_mem_take he)))
   rw [hmk,hnx,List.map_append,List.map_cons,List.map_nil,hd]
   rw [hnx,List.map_append,List.map_cons,List.map_nil,hd] at hrl
   exact (congrArg (D.row 1) (hrl _)).symm
  ·have e1 : es.take es.length = es:=List.take_length
   have hpl:=terms_pur hes
   rw [e1]
   refine go1F trivial ?_
   refine fin_wk (wk_frzO 1000001 1000002 (by decide) (by decide) rfl (by decide) rfl ?_) ?_
   rotate_left
   (conv in hold _=>simp (disch:=omega) only [go_sem,htl2,List.length_map,Nat.le_refl])
   ·refine fin_wk (wk_fro 4 1000001 (by decide) (by decide) rfl ?_) ?_
    rotate_left
    (conv in hold _=>simp (disch:=omega) only [go_sem,htl2])
    ·refine fin_wk (wk_fro 4 1000000 (by decide) (by decide) rfl ?_) ?_
     rotate_left
     (conv in hold _=>simp (disch:=omega) only [go_sem,htl2])
     ·refine fin_L [] ?_ ?_ rfl ?_
      repeat' (first|(conv in hold _=>simp (disch:=omega) only [go_sem,htl2])|exact trivial|exact Sub.refl _|omega)
     ·rfl
    ·first | rfl | (simp only [D.purL,D.pur,Bool.and_self])
   ·exact hpl
theorem projectedRows_yields {w : Nat} (rs : List (List V)) (hl : rs.length ≤ 100000) (hs : RsW w rs) (es : List E) (hel : es.length ≤ 1000) (hes : ∀ e,e ∈ es → eOk e w 8) :
  Yields Tryz.prog 158 [.ptr [rowsD rs],.ptr [.sl 1 (es.map tD)]] ((rs.map (prjR es)).map tupR):=by
 refine yields c_Z55 mixed (Nat.le_of_ble_eq_true rfl) (fun i e=>?_)
 conv=>arg 3; whnf
 refine go1 trivial ?_
 refine dw_for (c:=0) (l:=fun j=>[(0,.v (.func (.yield i) #[] #[])),(1,.ptr [rowsD rs]),(2,.ptr [.sl 1 (es.map tD)]),(9,rowsD rs),(10,I rs.length),(11,I j),(gh,.gho i ((rs.map (prjR es)).map tupR) e j)]) rs.length (fun j=>j ≤ e) 0 (Nat.zero_le _) (Wk.list [] rfl rfl ?_) (fun j hj hJ=>?_) (Nat.zero_le _)
 ·repeat' (first|(conv in hold _=>simp (disch:=omega) only [go_sem])|exact trivial|exact Sub.refl _|omega)
  first | exact rfl | exact ⟨rfl,rfl⟩
 ·rcases at_or_end hj with ⟨x,hx,hlt⟩ | rfl
  ·have hxr:=hs x (List.mem_of_getElem? hx)
   have hpl : (prjR es x).length = es.length:=List.length_map _
   refine go1 @hx ?_
   refine dw_for (c:=1) (l:=fun k=>[(0,.v (.func (.yield i) #[] #[])),(1,.ptr [rowsD rs]),(2,.ptr [.sl 1 (es.map tD)]),(5,rowD x),(6,.own 1000000 2 k),(9,rowsD rs),(10,I rs.length),(11,I j),(15,.sl 1 (es.map tD)),(16,I es.length),(17,I k),(1000000,.row 2 (((prjR es x).take k).map vD)),(gh,.gho i ((rs.map (prjR es)).map tupR) e j)]) es.length (fun _=>True) 0 trivial ((wk_row 6 2000090 2 (by decide) (by decide) rfl rfl).trans (Wk.list [2000090] rfl rfl ?_)) (fun k hk _=>?_) (Nat.zero_le _)
   ·repeat' (first|(conv in hold _=>simp (disch:=omega) only [go_sem])|exact trivial|exact Sub.refl _|omega)
    first | exact rfl | exact ⟨rfl,rfl⟩ | exact ⟨rfl,rfl,rfl⟩
   ·have hkl : ((prjR es x).take k).length = k:=take_len (by rw [hpl]; exact hk)
    have hkm : (((prjR es x).take k).map vD).take k = ((prjR es x).take k).map vD:=take_map vD (by rw [hpl]; exact hk)
    rcases at_or_end hk with ⟨y,hy,hklt⟩ | rfl
    ·obtain ⟨_,t,e0,f,hd,hp0,hm,hv⟩:=termOf_ok hxr.2 y 8 (by rw [hxr.1]; exact hes y (List.mem_of_getElem? hy))
     have hnk : (prjR es x).take (k + 1) = (prjR es x).take k ++ [ev y x]:=take_next (by unfold prjR; rw [List.getElem?_map,hy]; rfl)
     refine go1 (cj2 @hy @hd) ?_
     refine i_meth (hm) ?_
     refine Uc (cj2 @hd @hp0) (hv) (go1 (cj2 @hd @hp0) ?_)
     refine ⟨hklt,trivial,Wk.list [2000026] rfl rfl ?_⟩
     repeat' (first|(conv in hold _=>simp (disch:=omega) only [go_sem,hnk,hkm])|exact trivial|exact Sub.refl _|omega)
     rw [List.map_append]
     rfl
    ·have e1 : (prjR es x).take es.length = prjR es x:=List.take_of_length_le (by rw [hpl]; exact Nat.le_refl _)
     rw [e1] at hkm
     rw [e1]
     refine go1C trivial ?_
     refine s_pre (pre_frz (t:=29) (g:=1000000) (by decide) (by decide) rfl ?_) ?_
     rotate_left
     refine go1 (cj2 @hkm @hpl) ?_
     refine v_yld (by ((conv=>lhs; simp (disch:=omega) only [go_sem]); try rfl)) (hJ) ((by rw [List.getElem?_map,List.getElem?_map,hx]; rfl)) (by first | rfl | (simp only [go_sem])) ?_
     repeat' (first|with_reducible refine acc_none ?_ | (conv in hold _=>simp (disch:=omega) only [go_sem])|refine Stp.go ?_|(with_reducible first|refine it_pos rfl ?_|refine it_neg (by decide) ?_|refine st_nil rfl ?_|refine s_op ?_ ?_|exact trivial)|((with_reducible first|refine dw_reg0 ?_|refine dw_regB ?_);(conv=>arg 3;whnf))|(refine Spl.go (fun hq he=>?_) (fun hq he=>?_)<;>first|(exfalso;clear hq;omega)|((try first|(conv=>arg 8;simp only [hq])|(conv=>arg 4;simp only [hq]));clear hq))|((with_reducible first|refine c_split (fun hq=>?_) (fun hq=>?_)|refine q_split (fun hq=>?_) (fun hq=>?_))<;>(try first|(conv=>arg 8;simp only [hq])|(conv=>arg 4;simp only [hq])))|(with_reducible refine fin_0 ?_ (by first|rfl|(conv=>lhs;simp only [go_sem])) ?_)|exact Sub.refl _|omega)
     ·refine ⟨(j + 1),?_,?_⟩
      ·((conv=>lhs; simp (disch:=omega) only [go_sem]); try rfl)
      simp only [List.length_map]
      omega
     ·refine ⟨hlt,by omega,Wk.list [] rfl rfl ?_⟩
      repeat' (first|(conv in hold _=>simp (disch:=omega) only [go_sem])|exact trivial|exact Sub.refl _|omega)
     ·exact vals_pur _
  ·refine go1 trivial ?_
   refine ⟨rs.length,?_,?_⟩
   ·((conv=>lhs; simp (disch:=omega) only [go_sem]); try rfl)
   rw [List.length_map,List.length_map]
   omega
end Go.Proofs.YtefldihjbaodnaaGreat
