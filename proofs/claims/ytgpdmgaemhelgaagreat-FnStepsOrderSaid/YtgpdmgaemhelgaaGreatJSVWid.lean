/-
  The parts of a plan, as the program hands them out with their paths. No condition.
-/
import Derived.Test.YtgpdmgaemhelgaaGreatKSDca
import Derived.Test.YtgpdmgaemhelgaaGreatJSVEsz
import Derived.Test.YtgpdmgaemhelgaaGreatJSVYld
import Derived.Test.YtgpdmgaemhelgaaGreatJSVCols
import Derived.Test.YtgpdmgaemhelgaaGreatJSVClA
import Derived.Test.YtgpdmgaemhelgaaGreatJSVBox
import Derived.Test.YtgpdmgaemhelgaaGreatJSDcVWid
import Derived.Test.YtgpdmgaemhelgaaGreatJSVEvI
import Derived.Test.YtgpdmgaemhelgaaGreatJSVCpE
set_option maxHeartbeats 4000000
set_option maxRecDepth 100000
set_option linter.unusedVariables false
set_option linter.unusedSimpArgs false
namespace Go.Proofs.YtgpdmgaemhelgaaGreat
open Go.RowKit
def tri {α : Type} (x y z : α) : Nat → α
 | 0=>x
 | 1=>y
 | _=>z
theorem tri_0 {α : Type} (x y z : α) : tri x y z 0 = x:=rfl
theorem tri_1 {α : Type} (x y z : α) : tri x y z 1 = y:=rfl
theorem tri_2 {α : Type} (x y z : α) : tri x y z 2 = z:=rfl
theorem cst0 : ((0 : Nat) : Int) = 0:=rfl
theorem growP_ok (n : Nat) (h0 : 0 < n) (hn : n ≤ 1000000) : Does Tryz.prog 204 [] [.nul,I n] (.own 1000000 1 0) [.row 1 (List.replicate n (I 0))]:=by
 have hp : D.renL [2000022] (List.replicate n (I 0)) = List.replicate n (I 0):=by rw [D.renL_map,List.map_replicate]; rfl
 refine Bk c_Z5 mixed 0 (go1 (cj3 @cst0 @Int.sub_self @Int.sub_zero) ?_)
 refine fin_L [2000022] ?_ ?_ rfl ?_
 all_goals exact Ag (cj4 @cst0 @Int.sub_self @Int.sub_zero @hp)
theorem concatP_own (a b : List Int) (h0 : 0 < a.length + b.length) (hl : a.length + b.length ≤ 1000000) : Does Tryz.prog 192 [] [.sl 1 [intsD a,intsD b]] (.own 1000000 1 (a.length + b.length)) [.row 1 ((a ++ b).map I)]:=by
 have hg:=growP_ok (a.length + b.length) h0 (by omega)
 have e0 : (List.replicate (a.length + b.length) (I 0)).take 0 = []:=rfl
 have ea:=take_all I a
 have hp : ∀ L,D.renL L (List.replicate (a.length + b.length) (I 0)) = List.replicate (a.length + b.length) (I 0):=fun L=>by rw [D.renL_map,List.map_replicate]; rfl
 have ec : (((a.length + b.length : Nat) : Int)) = (a.length : Int) + (b.length : Int):=by omega
 refine Bk c_Z3 mixed 0 (go1 trivial ?_)
 refine dw_for (c:=0) (l:=fun i=>[(0,.sl 1 [intsD a,intsD b]),(3,I (tri 0 (a.length : Int) (a.length + b.length : Nat) i)),(9,.sl 1 [intsD a,intsD b]),(10,I 2),(11,I (tri 0 1 2 i))]) 2 (fun _=>True) 0 trivial (Wk.list [] rfl rfl ?_) (fun i hi _=>?_) (by decide)
 ·repeat' (first|(conv in hold _=>simp (disch:=omega) only [go_sem,tri_0,Int.reduceAdd])|exact trivial|exact Sub.refl _|omega)
  first | exact rfl | exact ⟨rfl,rfl⟩
 ·have h3 : i = 0 ∨ i = 1 ∨ i = 2:=by omega
  rcases h3 with rfl | rfl | rfl
  ·refine go1 (cj2 @tri_0 @Int.zero_add) ?_
   refine ⟨by decide,trivial,Wk.list [] rfl rfl ?_⟩
   repeat' (first|(conv in hold _=>simp (disch:=omega) only [go_sem,tri_1,Nat.reduceAdd,Int.reduceAdd])|exact trivial|exact Sub.refl _|omega)
  ·refine go1 @tri_1 ?_
   refine ⟨by decide,trivial,Wk.list [] rfl rfl ?_⟩
   repeat' (first|(conv in hold _=>simp (disch:=omega) only [go_sem,tri_2,Nat.reduceAdd,Int.reduceAdd,ec])|exact trivial|exact Sub.refl _|omega)
  ·refine go1 @tri_2 ?_
   refine UcR [3000001] trivial (hg) (go1 trivial ?_)
   refine dw_for (c:=1) (l:=fun i=>[(6,.own 1000000 1 (tri 0 a.length (a.length + b.length) i)),(25,.sl 1 [intsD a,intsD b]),(26,I 2),(27,I (tri 0 1 2 i)),(1000000,.row 1 (tri (List.replicate (a.length + b.length) (I 0)) (a.map I) ((a ++ b).map I) i))]) 2 (fun _=>True) 0 trivial (Wk.list [3000001] rfl rfl ?_) (fun i hi _=>?_) (by decide)
   ·repeat' (first|(conv in hold _=>simp (disch:=omega) only [go_sem,tri_0,Int.reduceAdd,hp])|exact trivial|exact Sub.refl _|omega)
    first | exact rfl | exact ⟨rfl,rfl⟩
   ·have h3 : i = 0 ∨ i = 1 ∨ i = 2:=by omega
    rcases h3 with rfl | rfl | rfl
    ·refine go1 (cj2 @tri_0 @e0) ?_
     refine ⟨by decide,trivial,Wk.list [2000033] rfl rfl ?_⟩
     repeat' (first|(conv in hold _=>simp (disch:=omega) only [go_sem,tri_1,Nat.reduceAdd,Int.reduceAdd,e0])|exact trivial|exact Sub.refl _|omega)
    ·refine go1 (cj2 @tri_1 @ea) ?_
     refine ⟨by decide,trivial,Wk.list [2000033] rfl rfl ?_⟩
     repeat' (first|(conv in hold _=>simp (disch:=omega) only [go_sem,tri_2,Nat.reduceAdd,Int.reduceAdd,ea])|exact trivial|exact Sub.refl _|omega)
     rw [List.map_append]
    ·refine go1 @tri_2 ?_
     refine fin_L [1000000] ?_ ?_ rfl ?_
     all_goals exact Ag @tri_2
theorem below_ok (pre : List Int) (i : Nat) (hl : pre.length ≤ 900000) : Does Tryz.prog 177 [] [intsD pre,I i] (intsD (pre ++ [(i : Int)])) []:=by
 have hc:=concatP_own pre [(i : Int)] (by simp) (by simp; omega)
 have e1 : (pre ++ [(i : Int)]).length = pre.length + [(i : Int)].length:=List.length_append
 have hlm : ((pre ++ [(i : Int)]).map I).length = pre.length + [(i : Int)].length:=by rw [List.length_map,e1]
 have ht : ((pre ++ [(i : Int)]).map I).take (pre.length + [(i : Int)].length) = (pre ++ [(i : Int)]).map I:=List.take_of_length_le (by omega)
 have hpu : D.purL ((pre ++ [(i : Int)]).map I) = true:=ints_pur _
 unfold intsD at hc ⊢
 generalize (pre ++ [(i : Int)]).map I = rr at *
 have hrr:=fun L=>ren_pure.renL_pure L rr hpu
 generalize pre.length + [(i : Int)].length = n at *
 refine Bg c_Z25 mixed (go1F trivial ?_)
 refine UcR [3000001] trivial (hc) (go1F trivial ?_)
 refine fin_wk (wk_frz 4 3000001 (by decide) (by decide) rfl ?_) ?_
 rotate_left
 (conv in hold _=>simp (disch:=omega) only [go_sem,ht,hlm,hrr,Nat.le_refl])
 ·refine fin_L [] ?_ ?_ rfl ?_
  all_goals exact Ag (cj3 @ht @hlm @hrr)
 ·rw [hrr]; exact hpu
def tupP (x : List Int × Pl) : D:=.tup [intsD x.1,pD x.2]
theorem yieldParts_ok (i e : Nat) (L : List D) : ∀ p,psz p ≤ 600000 → ∀ (pre : List Int) (k k' : Nat) (b : Bool),pre.length + psz p ≤ 900000 → k ≤ e → (∀ j x,(ptP p pre)[j]? = some x → L[k + j]? = some (tupP x)) →
  k' = min (k + (ptP p pre).length) (e + 1) → b = decide (k + (ptP p pre).length ≤ e) → YCalls Tryz.prog 150 i L e [pD p,intsD pre,.v (.func (.yield i) #[] #[])] k (Bo b) k':=by
 refine Pl.indA (fun p ih hs pre k k' b hpre hk hL hk' hb=>?_)
 have hps:=psz_eq p
 have hlk:=pszL_len p.ks
 have hN : (ptP p pre).length = 1 + (ptL p.ks pre 0).length:=by rw [ptP_eq,List.length_cons]; omega
 have h0 : L[k]? = some (.tup [intsD pre,pD p]):=hL 0 (pre,p) (by rw [ptP_eq]; rfl)
 rw [pD_eq] at h0
 have htk:=ptL_take p.ks pre
 refine ycalls_of c_Z75 mixed (Nat.le_of_ble_eq_true rfl) rfl ?_
 conv=>arg 3; whnf
 refine go1 trivial ?_
 refine v_yld (by ((conv=>lhs; simp (disch:=omega) only [go_sem]); try rfl)) (hk) (h0) (by first | rfl | (simp only [go_sem])) ?_
 repeat' (first|with_reducible refine acc_none ?_ | (conv in hold _=>simp (disch:=omega) only [go_sem])|refine Stp.go ?_|(with_reducible first|refine it_pos rfl ?_|refine it_neg (by decide) ?_|refine st_nil rfl ?_|refine s_op ?_ ?_|exact trivial)|((with_reducible first|refine dw_reg0 ?_|refine dw_regB ?_);(conv=>arg 3;whnf))|(refine Spl.go (fun hq he=>?_) (fun hq he=>?_)<;>first|(exfalso;clear hq;omega)|((try first|(conv=>arg 8;simp only [hq])|(conv=>arg 4;simp only [hq]));clear hq))|((with_reducible first|refine c_split (fun hq=>?_) (fun hq=>?_)|refine q_split (fun hq=>?_) (fun hq=>?_))<;>(try first|(conv=>arg 8;simp only [hq])|(conv=>arg 4;simp only [hq])))|(with_reducible refine fin_0 ?_ (by first|rfl|(conv=>lhs;simp only [go_sem])) ?_)|exact Sub.refl _|omega)
 ·have hke : k = e:=Classical.byContradiction he
  obtain rfl : k' = k + 1:=by omega
  obtain rfl : b = false:=by rw [hb]; exact decide_eq_false (by omega)
  refine ⟨?_,?_,?_⟩
  ·((conv=>lhs; simp (disch:=omega) only [go_sem]); try rfl)
  ·first | exact True.intro | (repeat' apply And.intro) <;> exact True.intro
  ·((conv=>lhs; simp (disch:=omega) only [go_sem]); try rfl)
 ·have hke : k < e:=by omega
  refine dw_for (c:=1) (l:=fun j=>[(1,intsD pre),(2,.v (.func (.yield i) #[] #[])),(3,.ref 1000000 0),(15,.sl 5 (p.ks.map pD)),(16,I p.ks.length),(17,I j),(1000000,.obj [I p.k,I p.t,.sl 5 (p.es.map eD),intsD p.cs,.sl 5 (p.ks.map pD)]),(gh,.gho i L e (k + (1 + (ptL (p.ks.take j) pre 0).length)))]) p.ks.length (fun j=>k + (1 + (ptL (p.ks.take j) pre 0).length) ≤ e) 0 (by rw [List.take_zero,ptL]; show k + 1 ≤ e; omega) (Wk.list [2000003] rfl rfl ?_) (fun j hj hJ=>?_) (Nat.zero_le _)
  ·repeat' (first|(conv in hold _=>simp (disch:=omega) only [go_sem,List.take_zero,ptL])|exact trivial|exact Sub.refl _|omega)
   (repeat' apply And.intro) <;> rfl
  ·rcases at_or_end hj with ⟨x,hx0,hlt⟩ | rfl
   ·have hxs:=pszL_mem (List.mem_of_getElem? hx0)
    have hb1:=below_ok pre j (by omega)
    have hnx:=ptL_next (pre:=pre) hx0
    have hle:=htk (j + 1)
    rw [hnx,List.length_append] at hle
    have hcx:=fun (k1 : Nat) (b1 : Bool)=>ih x (List.mem_of_getElem? hx0) (by omega) (pre ++ [(j : Int)]) (k + (1 + (ptL (p.ks.take j) pre 0).length)) k1 b1 (by rw [List.length_append,List.length_singleton]; omega) hJ (fun j2 y hy=>by
     have:=hL (1 + (ptL (p.ks.take j) pre 0).length + j2) y (by
      rw [ptP_eq,show 1 + (ptL (p.ks.take j) pre 0).length + j2 = ((ptL (p.ks.take j) pre 0).length + j2) + 1 by omega,List.getElem?_cons_succ]
      have h1:=ptL_append (p.ks.take (j + 1)) (p.ks.drop (j + 1)) pre 0
      rw [List.take_append_drop,hnx,List.append_assoc] at h1
      rw [h1,List.getElem?_append_right (by omega),Nat.add_sub_cancel_left,List.getElem?_append_left (List.getElem?_eq_some_iff.1 hy).1]
      exact hy)
     rw [← Nat.add_assoc] at this
     exact this)
    rw [pD_eq x] at hcx
    rw [hnx,List.length_append]
    generalize (ptL (p.ks.take j) pre 0).length = c at *
    generalize (ptP x (pre ++ [(j : Int)])).length = cx at *
    unfold intsD at hb1 hcx
    by_cases hall : k + (1 + c) + cx ≤ e
    ·have hy:=hcx (k + (1 + c) + cx) true (by omega) (by rw [decide_eq_true hall])
     refine go1 (cj2 @hx0 @intsD.eq_1) ?_
     refine Uc trivial (hb1) (go1C trivial ?_)
     refine s_ycall (by ((conv=>lhs; simp (disch:=omega) only [go_sem]); try rfl)) (hy) (by ((conv=>lhs; simp (disch:=omega) only [go_sem]); try rfl)) (by first | rfl | (simp only [go_sem])) (by first | rfl | (simp only [go_sem])) ?_
     refine go1 trivial ?_
     refine ⟨hlt,by omega,Wk.list [1000000] rfl rfl ?_⟩
     repeat' (first|(conv in hold _=>simp (disch:=omega) only [go_sem,intsD])|exact trivial|exact Sub.refl _|omega)
     exact congrArg (fun n=>D.gho i L e n) (by omega)
    ·have hy:=hcx (e + 1) false (by omega) (by rw [decide_eq_false hall])
     obtain rfl : k' = e + 1:=by omega
     obtain rfl : b = false:=by rw [hb]; exact decide_eq_false (by omega)
     refine go1 (cj2 @hx0 @intsD.eq_1) ?_
     refine Uc trivial (hb1) (go1C trivial ?_)
     refine s_ycall (by ((conv=>lhs; simp (disch:=omega) only [go_sem]); try rfl)) (hy) (by ((conv=>lhs; simp (disch:=omega) only [go_sem]); try rfl)) (by first | rfl | (simp only [go_sem])) (by first | rfl | (simp only [go_sem])) ?_
     refine go1 trivial ?_
     refine ⟨?_,?_,?_⟩
     ·((conv=>lhs; simp (disch:=omega) only [go_sem]); try rfl)
     ·first | exact True.intro | (repeat' apply And.intro) <;> exact True.intro
     ·((conv=>lhs; simp (disch:=omega) only [go_sem]); try rfl)
   ·rw [List.take_length] at *
    obtain rfl : k' = k + (1 + (ptL p.ks pre 0).length):=by omega
    obtain rfl : b = true:=by rw [hb]; exact decide_eq_true (by omega)
    refine go1 trivial ?_
    refine ⟨?_,?_,?_⟩
    ·((conv=>lhs; simp (disch:=omega) only [go_sem]); try rfl)
    ·first | exact True.intro | (repeat' apply And.intro) <;> exact True.intro
    ·((conv=>lhs; simp (disch:=omega) only [go_sem]); try rfl)
theorem partsOf_yields (p : Pl) (hs : psz p ≤ 600000) : Yields Tryz.prog 149 [.ptr [I p.k,I p.t,.sl 5 (p.es.map eD),intsD p.cs,.sl 5 (p.ks.map pD)]] ((ptP p []).map tupP):=by
 have hy:=fun (i e : Nat)=>(yieldParts_ok i e ((ptP p []).map tupP) p hs [] 0 (min (0 + (ptP p []).length) (e + 1)) (decide (0 + (ptP p []).length ≤ e)) (by simp; omega) (Nat.zero_le _) (fun j x hx=>by rw [Nat.zero_add,List.getElem?_map,hx]; rfl) rfl rfl).weak (es:=[pD p,.nul,.v (.func (.yield i) #[] #[])]) ⟨Sub.refl _,Sub.nul 1,Sub.refl _,trivial⟩ (Sub.refl _)
 rw [pD_eq p] at hy
 simp only [Nat.zero_add] at hy
 unfold intsD at hy
 refine yields c_Z93 mixed (Nat.le_of_ble_eq_true rfl) (fun i e=>?_)
 conv=>arg 3; whnf
 refine go1C trivial ?_
 refine s_ycall (by ((conv=>lhs; simp (disch:=omega) only [go_sem]); try rfl)) ((hy i e)) (by ((conv=>lhs; simp (disch:=omega) only [go_sem]); try rfl)) (by first | rfl | (simp only [go_sem])) (by first | rfl | (simp only [go_sem])) ?_
 refine go1 trivial ?_
 refine ⟨(min (ptP p []).length (e + 1)),?_,?_⟩
 ·((conv=>lhs; simp (disch:=omega) only [go_sem]); try rfl)
 simp only [List.length_map]
 omega
theorem partsOf_ok (p : Pl) : Does Tryz.prog 107 [] [pD p] (.fn 149 [.ptr [I p.k,I p.t,.sl 5 (p.es.map eD),intsD p.cs,.sl 5 (p.ks.map pD)]]) []:=by
 refine Bg c_Z130 mixed (go1F trivial ?_)
 refine fin_wk (wk_fro 2 2000001 (by decide) (by decide) rfl ?_) ?_
 rotate_left
 (conv in hold _=>simp (disch:=omega) only [go_sem])
 ·refine fin_L [] ?_ ?_ rfl ?_
  all_goals exact Ag trivial
 ·rfl
end Go.Proofs.YtgpdmgaemhelgaaGreat
set_option maxHeartbeats 4000000
set_option maxRecDepth 100000
namespace Go.Proofs.YtgpdmgaemhelgaaGreat
open Go.RowKit
def wsOk (ws : List Int) : Prop:=(1 ≤ ws.length ∧ ws.length ≤ 4) ∧ ∀ (j : Nat) (w : Int),ws[j]? = some w → 1 ≤ w ∧ w ≤ 6
noncomputable instance wsOkDec (ws : List Int) : Decidable (wsOk ws):=Classical.propDecidable _
theorem upto1 {α : Type} {l : List α} {i : Nat} {x : α} {P : Nat → α → Prop} (hx : l[i]? = some x) (h : P i x) (hJ : ∀ (j : Nat) (y : α),j < i → l[j]? = some y → P j y) : ∀ (j : Nat) (y : α),j < i + 1 → l[j]? = some y → P j y:=by
 intro j y hj hy
 by_cases hji : j = i
 ·subst hji
  rw [hx] at hy
  cases hy
  exact h
 ·exact hJ j y (by omega) hy
theorem upto0 {α : Type} {l : List α} {P : Nat → α → Prop} (hJ : ∀ (j : Nat) (y : α),j < l.length → l[j]? = some y → P j y) : ∀ (j : Nat) (y : α),l[j]? = some y → P j y:=fun j y h=>hJ j y (List.getElem?_eq_some_iff.1 h).1 h
theorem validWidths_spec (ws : List Int) (hl : ws.length ≤ 1048576) : Does Tryz.prog 94 [] [intsD ws] (Bo (decide (wsOk ws))) []:=by
 refine Bg c_Z69 mixed (go1 trivial ?_)
 refine dw_for (c:=0) (l:=fun i=>[(0,intsD ws),(3,I i)]) ws.length (fun i=>∀ (j : Nat) (w : Int),j < i → ws[j]? = some w → 1 ≤ w ∧ w ≤ 6) 0 (fun j w hj=>by omega) (Wk.list [] rfl rfl ?_) (fun i hi hJ=>?_) (Nat.zero_le _)
 ·repeat' (first|(conv in hold _=>simp (disch:=omega) only [go_sem])|exact trivial|exact Sub.refl _|omega)
  exact rfl
 ·rcases at_or_end hi with ⟨x,hx,hlt⟩ | rfl
  ·have hr:=inRange_ok x 1 6
   by_cases h1 : 1 ≤ x ∧ x ≤ 6
   ·rw [decide_eq_true h1] at hr
    refine go1 @hx ?_
    refine Uc trivial (hr) (go1 trivial ?_)
    refine ⟨hlt,upto1 (P:=fun _ w=>1 ≤ w ∧ w ≤ 6) hx h1 hJ,Wk.list [] rfl rfl ?_⟩
    exact Ag trivial
   ·rw [decide_eq_false h1] at hr
    refine go1 @hx ?_
    refine Uc trivial (hr) (go1 trivial ?_)
    exact sub_f (fun h=>h1 (h.2 i x hx))
  ·have hr:=inRange_ok ws.length 1 4
   refine go1 trivial ?_
   refine Uc trivial (hr) (go1 trivial ?_)
   exact sub_iff (by rw [decide_eq_true_iff]; exact ⟨fun h=>⟨by omega,upto0 (P:=fun _ w=>1 ≤ w ∧ w ≤ 6) hJ⟩,fun h=>by have:=h.1; omega⟩)
theorem validWidths_impl (ws : List Int) (hl : ws.length ≤ 1048576) : Does Tryz.prog 55 [] [intsD ws] (Bo (decide (wsOk ws))) []:=by
 by_cases hb : 1 ≤ ws.length ∧ ws.length ≤ 4
 ·refine Bg c_Z62 mixed (go1 trivial ?_)
  refine dw_for (c:=0) (l:=fun i=>[(13,intsD ws),(14,I ws.length),(15,I i)]) ws.length (fun i=>∀ (j : Nat) (w : Int),j < i → ws[j]? = some w → 1 ≤ w ∧ w ≤ 6) 0 (fun j w hj=>by omega) (Wk.list [] rfl rfl ?_) (fun i hi hJ=>?_) (Nat.zero_le _)
  ·repeat' (first|(conv in hold _=>simp (disch:=omega) only [go_sem])|exact trivial|exact Sub.refl _|omega)
   exact rfl
  ·rcases at_or_end hi with ⟨x,hx,hlt⟩ | rfl
   ·have hr:=validWidth_ok x
    by_cases h1 : 1 ≤ x ∧ x ≤ 6
    ·rw [decide_eq_true h1] at hr
     refine go1 @hx ?_
     refine Uc trivial (hr) (go1 trivial ?_)
     refine ⟨hlt,upto1 (P:=fun _ w=>1 ≤ w ∧ w ≤ 6) hx h1 hJ,Wk.list [] rfl rfl ?_⟩
     exact Ag trivial
    ·rw [decide_eq_false h1] at hr
     refine go1 @hx ?_
     refine Uc trivial (hr) (go1 trivial ?_)
     exact sub_f (fun h=>h1 (h.2 i x hx))
   ·refine go1 trivial ?_
    exact sub_iff ⟨fun _=>⟨hb,upto0 (P:=fun _ w=>1 ≤ w ∧ w ≤ 6) hJ⟩,fun _=>rfl⟩
 ·refine does0 c_Z62 mixed (Nat.le_of_ble_eq_true rfl) ?_
  conv=>arg 3; whnf
  repeat' (first|with_reducible refine acc_none ?_ | (conv in hold _=>simp (disch:=omega) only [go_sem])|refine Stp.go ?_|(with_reducible first|refine it_pos rfl ?_|refine it_neg (by decide) ?_|refine st_nil rfl ?_|refine s_op ?_ ?_|exact trivial)|((with_reducible first|refine dw_reg0 ?_|refine dw_regB ?_);(conv=>arg 3;whnf))|(refine Spl.go (fun hq he=>?_) (fun hq he=>?_)<;>first|(exfalso;clear hq;omega)|((try first|(conv=>arg 8;simp only [hq])|(conv=>arg 4;simp only [hq]));clear hq))|((with_reducible first|refine c_split (fun hq=>?_) (fun hq=>?_)|refine q_split (fun hq=>?_) (fun hq=>?_))<;>(try first|(conv=>arg 8;simp only [hq])|(conv=>arg 4;simp only [hq])))|(with_reducible refine fin_0 ?_ (by first|rfl|(conv=>lhs;simp only [go_sem])) ?_)|exact Sub.refl _|omega)
  all_goals exact sub_f (fun h=>hb h.1)
def colAt (cs : List Int) (w : Int) (i : Nat) (c : Int) : Prop:=(0 ≤ c ∧ c ≤ w - 1) ∧ ∀ b,0 < i → cs[i - 1]? = some b → b < c
def colsOk (cs : List Int) (w : Int) : Prop:=∀ (i : Nat) (c : Int),cs[i]? = some c → colAt cs w i c
noncomputable instance colsOkDec (cs : List Int) (w : Int) : Decidable (colsOk cs w):=Classical.propDecidable _
theorem validCols_ok (cs : List Int) (w : Int) (hw : 0 ≤ w ∧ w ≤ 1000) (hl : cs.length ≤ 1048576) : Does Tryz.prog 140 [] [intsD cs,I w] (Bo (decide (colsOk cs w))) []:=by
 refine Bg c_Z106 mixed (go1 trivial ?_)
 refine dw_for (c:=0) (l:=fun i=>[(0,intsD cs),(1,I w),(5,I i)]) cs.length (fun i=>∀ (j : Nat) (c : Int),j < i → cs[j]? = some c → colAt cs w j c) 0 (fun j w hj=>by omega) (Wk.list [] rfl rfl ?_) (fun i hi hJ=>?_) (Nat.zero_le _)
 ·repeat' (first|(conv in hold _=>simp (disch:=omega) only [go_sem])|exact trivial|exact Sub.refl _|omega)
  exact rfl
 ·rcases at_or_end hi with ⟨x,hx,hlt⟩ | rfl
  ·have hr:=inRange_ok x 0 (w - 1)
   by_cases h1 : 0 ≤ x ∧ x ≤ w - 1
   ·rw [decide_eq_true h1] at hr
    by_cases hi0 : i = 0
    ·refine go1 @hx ?_
     refine Uc trivial (hr) (go1 trivial ?_)
     refine ⟨hlt,upto1 (P:=colAt cs w) hx ⟨h1,fun b h0=>by omega⟩ hJ,Wk.list [] rfl rfl ?_⟩
     exact Ag trivial
    ·obtain ⟨b,hb⟩ : ∃ b,cs[i - 1]? = some b:=⟨_,List.getElem?_eq_getElem (by omega)⟩
     have hii : ((i : Int) - 1).toNat = i - 1:=by omega
     by_cases h2 : b < x
     ·refine go1 @hx ?_
      refine Uc (cj3 @hx @hb @hii) (hr) (go1 (cj3 @hx @hb @hii) ?_)
      refine ⟨hlt,upto1 (P:=colAt cs w) hx ⟨h1,fun b' _ hb'=>by rw [hb] at hb'; cases hb'; exact h2⟩ hJ,Wk.list [] rfl rfl ?_⟩
      exact Ag trivial
     ·refine go1 @hx ?_
      refine Uc (cj3 @hx @hb @hii) (hr) (go1 (cj3 @hx @hb @hii) ?_)
      exact sub_f (fun h=>h2 ((h i x hx).2 b (by omega) hb))
   ·rw [decide_eq_false h1] at hr
    refine go1 @hx ?_
    refine Uc trivial (hr) (go1 trivial ?_)
    exact sub_f (fun h=>h1 (h i x hx).1)
  ·refine go1 trivial ?_
   exact sub_iff ⟨fun _=>upto0 (P:=colAt cs w) hJ,fun _=>rfl⟩
def lastOf (cs : List Int) (i : Nat) : Int:=if i = 0 then -1 else cs.getD (i - 1) 0
theorem lastOf_next {cs : List Int} {i : Nat} {x : Int} (hx : cs[i]? = some x) : lastOf cs (i + 1) = x:=by
 unfold lastOf
 rw [if_neg (by omega),Nat.add_sub_cancel,List.getD_eq_getElem?_getD,hx]
 rfl
theorem validColumns_ok (cs : List Int) (w : Int) (hl : cs.length ≤ 1048576) : Does Tryz.prog 145 [] [intsD cs,I w] (Bo (decide (cs.length < 6 ∧ colsOk cs w))) []:=by
 by_cases hb : cs.length < 6
 ·refine Bg c_Z43 mixed (go1 trivial ?_)
  refine dw_for (c:=0) (l:=fun i=>[(1,I w),(5,I (lastOf cs i)),(11,intsD cs),(12,I cs.length),(13,I i)]) cs.length (fun i=>∀ (j : Nat) (c : Int),j < i → cs[j]? = some c → colAt cs w j c) 0 (fun j w hj=>by omega) (Wk.list [] rfl rfl ?_) (fun i hi hJ=>?_) (Nat.zero_le _)
  ·repeat' (first|(conv in hold _=>simp (disch:=omega) only [go_sem])|exact trivial|exact Sub.refl _|omega)
   exact ⟨rfl,rfl⟩
  ·rcases at_or_end hi with ⟨x,hx,hlt⟩ | rfl
   ·have hnx:=lastOf_next hx
    have hlast : lastOf cs i < x ∧ x < w ↔ colAt cs w i x:=by
     unfold lastOf colAt
     by_cases hi0 : i = 0
     ·rw [if_pos hi0]
      exact ⟨fun h=>⟨by omega,fun b h0=>by omega⟩,fun h=>by have:=h.1; omega⟩
     ·obtain ⟨b,hb⟩ : ∃ b,cs[i - 1]? = some b:=⟨_,List.getElem?_eq_getElem (by omega)⟩
      have h3:=(hJ (i - 1) b (by omega) hb).1
      rw [if_neg hi0,List.getD_eq_getElem?_getD,hb,Option.getD_some]
      exact ⟨fun h=>⟨by omega,fun b' _ hb'=>by cases hb'; exact h.1⟩,fun h=>⟨h.2 b (by omega) rfl,by have:=h.1; omega⟩⟩
    by_cases h1 : lastOf cs i < x ∧ x < w
    ·refine go1 @hx ?_
     refine ⟨hlt,upto1 (P:=colAt cs w) hx (hlast.1 h1) hJ,Wk.list [] rfl rfl ?_⟩
     exact Ag @hnx
    ·repeat' (first|with_reducible refine acc_none ?_ | (conv in hold _=>simp (disch:=omega) only [go_sem,List.getElem?_map,hx,Option.map_some])|refine Stp.go ?_|(with_reducible first|refine it_pos rfl ?_|refine it_neg (by decide) ?_|refine st_nil rfl ?_|refine s_op ?_ ?_|exact trivial)|((with_reducible first|refine dw_reg0 ?_|refine dw_regB ?_);(conv=>arg 3;whnf))|(refine Spl.go (fun hq he=>?_) (fun hq he=>?_)<;>first|(exfalso;clear hq;omega)|((try first|(conv=>arg 8;simp only [hq])|(conv=>arg 4;simp only [hq]));clear hq))|((with_reducible first|refine c_split (fun hq=>?_) (fun hq=>?_)|refine q_split (fun hq=>?_) (fun hq=>?_))<;>(try first|(conv=>arg 8;simp only [hq])|(conv=>arg 4;simp only [hq])))|(with_reducible refine fin_0 ?_ (by first|rfl|(conv=>lhs;simp only [go_sem,List.getElem?_map,hx,Option.map_some])) ?_)|exact Sub.refl _|omega)
     all_goals exact sub_f (fun h=>h1 (hlast.2 (h.2 i x hx)))
   ·refine go1 trivial ?_
    exact sub_iff ⟨fun _=>⟨hb,upto0 (P:=colAt cs w) hJ⟩,fun _=>rfl⟩
 ·refine Bg c_Z43 mixed (go1 trivial ?_)
  exact sub_f (fun h=>hb h.1)
def esOk (es : List E) (w : Int) : Prop:=∀ (j : Nat) (e : E),es[j]? = some e → eOk e w 8
noncomputable instance esOkDec (es : List E) (w : Int) : Decidable (esOk es w):=Classical.propDecidable _
theorem projectWidth_ok (es : List E) (w : Int) (hw : 1 ≤ w ∧ w ≤ 6) (hl : es.length ≤ 1048576) : Does Tryz.prog 139 [] [.sl 5 (es.map eD),I w] (I (if es.length ≤ 6 ∧ esOk es w then es.length else 0)) []:=by
 refine Bg c_Z47 mixed (go1 trivial ?_)
 refine dw_for (c:=0) (l:=fun i=>[(0,.sl 5 (es.map eD)),(1,I w),(5,I i)]) es.length (fun i=>∀ (j : Nat) (e : E),j < i → es[j]? = some e → eOk e w 8) 0 (fun j w hj=>by omega) (Wk.list [] rfl rfl ?_) (fun i hi hJ=>?_) (Nat.zero_le _)
 ·repeat' (first|(conv in hold _=>simp (disch:=omega) only [go_sem])|exact trivial|exact Sub.refl _|omega)
  exact rfl
 ·rcases at_or_end hi with ⟨x,hx,hlt⟩ | rfl
  ·have hr:=ValidExpr_ok x w (by omega)
   by_cases h1 : eOk x w 8
   ·rw [decide_eq_true ⟨hw,h1⟩] at hr
    refine go1 @hx ?_
    refine Uc trivial (hr) (go1 trivial ?_)
    refine ⟨hlt,upto1 (P:=fun _ e=>eOk e w 8) hx h1 hJ,Wk.list [] rfl rfl ?_⟩
    exact Ag trivial
   ·rw [decide_eq_false (fun h=>h1 h.2)] at hr
    rw [if_neg (fun h=>h1 (h.2 i x hx))]
    refine go1 @hx ?_
    exact Uc trivial (hr) (go0 trivial)
  ·by_cases h6 : es.length ≤ 6
   ·rw [if_pos ⟨h6,upto0 (P:=fun _ e=>eOk e w 8) hJ⟩]
    exact go0 trivial
   ·rw [if_neg (fun h=>h6 h.1)]
    exact go0 trivial
end Go.Proofs.YtgpdmgaemhelgaaGreat
set_option maxHeartbeats 4000000
set_option maxRecDepth 100000
namespace Go.Proofs.YtgpdmgaemhelgaaGreat
open Go.RowKit
def fields (p : Pl) : Prop:=(1 ≤ p.k ∧ p.k ≤ 8) ∧ (p.k = 1 → p.ks.length = 0) ∧ (p.k = 4 ∨ p.k = 5 ∨ p.k = 6 → p.ks.length = 2) ∧ (p.k = 2 ∨ p.k = 3 ∨ p.k = 7 ∨ p.k = 8 → p.ks.length = 1) ∧
 (p.k = 2 ∨ p.k = 4 ∨ p.k = 5 → p.es.length = 1) ∧ (p.k = 1 ∨ p.k = 6 ∨ p.k = 7 ∨ p.k = 8 → p.es.length = 0) ∧ (p.t = 0 ∨ p.k = 1) ∧ (p.cs.length = 0 ∨ p.k = 8)
noncomputable instance fieldsDec (p : Pl) : Decidable (fields p):=Classical.propDecidable _
theorem onlyFields_ok (p : Pl) : Does Tryz.prog 137 [] [pD p] (Bo (decide (fields p))) []:=by
 have hr:=inRange_ok p.k 1 8
 by_cases hk : 1 ≤ p.k ∧ p.k ≤ 8
 ·rw [decide_eq_true hk] at hr
  refine does0 c_Z81 mixed (Nat.le_of_ble_eq_true rfl) ?_
  conv=>arg 3; whnf
  repeat' (first|with_reducible refine acc_none ?_ | (conv in hold _=>simp (disch:=omega) only [go_sem])|refine Stp.go ?_|(with_reducible first|refine it_pos rfl ?_|refine it_neg (by decide) ?_|refine st_nil rfl ?_|refine s_op ?_ ?_|exact trivial)|((with_reducible first|refine dw_reg0 ?_|refine dw_regB ?_);(conv=>arg 3;whnf))|(refine Spl.go (fun hq he=>?_) (fun hq he=>?_)<;>first|(exfalso;clear hq;omega)|((try first|(conv=>arg 8;simp only [hq])|(conv=>arg 4;simp only [hq]));clear hq))|((with_reducible first|refine c_split (fun hq=>?_) (fun hq=>?_)|refine q_split (fun hq=>?_) (fun hq=>?_))<;>(try first|(conv=>arg 8;simp only [hq])|(conv=>arg 4;simp only [hq])))|(with_reducible refine fin_0 ?_ (by first|rfl|(conv=>lhs;simp only [go_sem])) ?_)|exact Sub.refl _|omega)
  all_goals
   refine c_doesE (hr) ?_ ?_ ?_
   ·((try (conv=>rhs;simp (disch:=omega) only [go_sem])); try rfl)
   ·first|rfl|(conv=>lhs;simp only [go_sem])
   repeat' (first|with_reducible refine acc_none ?_ | (conv in hold _=>simp (disch:=omega) only [go_sem])|refine Stp.go ?_|(with_reducible first|refine it_pos rfl ?_|refine it_neg (by decide) ?_|refine st_nil rfl ?_|refine s_op ?_ ?_|exact trivial)|((with_reducible first|refine dw_reg0 ?_|refine dw_regB ?_);(conv=>arg 3;whnf))|(refine Spl.go (fun hq he=>?_) (fun hq he=>?_)<;>first|(exfalso;clear hq;omega)|((try first|(conv=>arg 8;simp only [hq])|(conv=>arg 4;simp only [hq]));clear hq))|((with_reducible first|refine c_split (fun hq=>?_) (fun hq=>?_)|refine q_split (fun hq=>?_) (fun hq=>?_))<;>(try first|(conv=>arg 8;simp only [hq])|(conv=>arg 4;simp only [hq])))|(with_reducible refine fin_0 ?_ (by first|rfl|(conv=>lhs;simp only [go_sem])) ?_)|exact Sub.refl _|omega)
  all_goals first
   | exact sub_f (fun h=>by unfold fields at h; omega)
   | exact sub_iff ⟨fun _=>by unfold fields; omega,fun _=>rfl⟩
   | exact sub_iff ⟨fun h'=>by unfold fields; simp at h'; omega,fun h'=>by unfold fields at h'; simp; omega⟩
 ·rw [decide_eq_false hk] at hr
  refine Bg c_Z81 mixed (go1 trivial ?_)
  refine Uc trivial (hr) (go1 trivial ?_)
  exact sub_f (fun h=>hk h.1)
def fieldsI (p : Pl) : Prop:=fields p ∧ (p.k = 3 → 1 ≤ p.es.length ∧ p.es.length ≤ 6)
noncomputable instance fieldsIDec (p : Pl) : Decidable (fieldsI p):=Classical.propDecidable _
theorem shapeOf_ok (k : Int) (h : 1 ≤ k ∧ k ≤ 8) : Does Tryz.prog 144 [] [I k] (.tup [.agg [I (if k = 2 ∨ k = 3 ∨ k = 4 ∨ k = 5 then 1 else 0),I (if k = 3 then 6 else if k = 2 ∨ k = 4 ∨ k = 5 then 1 else 0),I (if k = 1 then 0 else if k = 4 ∨ k = 5 ∨ k = 6 then 2 else 1)],Bo true]) []:=by
 refine does0 c_Z131 mixed (Nat.le_of_ble_eq_true rfl) ?_
 conv=>arg 3; whnf
 repeat' (first|with_reducible refine acc_none ?_ | (conv in hold _=>simp (disch:=omega) only [go_sem])|refine Stp.go ?_|(with_reducible first|refine it_pos rfl ?_|refine it_neg (by decide) ?_|refine st_nil rfl ?_|refine s_op ?_ ?_|exact trivial)|((with_reducible first|refine dw_reg0 ?_|refine dw_regB ?_);(conv=>arg 3;whnf))|(refine Spl.go (fun hq he=>?_) (fun hq he=>?_)<;>first|(exfalso;clear hq;omega)|((try first|(conv=>arg 8;simp only [hq])|(conv=>arg 4;simp only [hq]));clear hq))|((with_reducible first|refine c_split (fun hq=>?_) (fun hq=>?_)|refine q_split (fun hq=>?_) (fun hq=>?_))<;>(try first|(conv=>arg 8;simp only [hq])|(conv=>arg 4;simp only [hq])))|(with_reducible refine fin_0 ?_ (by first|rfl|(conv=>lhs;simp only [go_sem])) ?_)|exact Sub.refl _|omega)
 all_goals exact Sub.of_eq (by subst he; rfl)
theorem shapeOf_no (k : Int) (h : ¬ (1 ≤ k ∧ k ≤ 8)) : Does Tryz.prog 144 [] [I k] (.tup [.agg [I 0,I 0,I 0],Bo false]) []:=by
 exact Bg c_Z131 mixed (go0 trivial)
theorem hasOwnFields_ok (p : Pl) : Does Tryz.prog 100 [] [pD p] (Bo (decide (fieldsI p))) [] := by
  by_cases hk : 1 ≤ p.k ∧ p.k ≤ 8
  · have hs := shapeOf_ok p.k hk
    refine Bg c_Z39 mixed (go1 trivial ?_)
    refine c_doesE (hs) ?_ ?_ ?_
    · ((try (conv=>rhs;simp (disch:=omega) only [go_sem])); try rfl)
    · first|rfl|(conv=>lhs;simp only [go_sem])
    repeat' (first|with_reducible refine acc_none ?_ | (conv in hold _=>simp (disch:=omega) only [go_sem])|refine Stp.go ?_|(with_reducible first|refine it_pos rfl ?_|refine it_neg (by decide) ?_|refine st_nil rfl ?_|refine s_op ?_ ?_|exact trivial)|((with_reducible first|refine dw_reg0 ?_|refine dw_regB ?_);(conv=>arg 3;whnf))|(refine Spl.go (fun hq he=>?_) (fun hq he=>?_)<;>first|(exfalso;clear hq;omega)|((try first|(conv=>arg 8;simp only [hq])|(conv=>arg 4;simp only [hq]));clear hq))|((with_reducible first|refine c_split (fun hq=>?_) (fun hq=>?_)|refine q_split (fun hq=>?_) (fun hq=>?_))<;>(try first|(conv=>arg 8;simp only [hq])|(conv=>arg 4;simp only [hq])))|(with_reducible refine fin_0 ?_ (by first|rfl|(conv=>lhs;simp only [go_sem])) ?_)|exact Sub.refl _|omega)
    all_goals first
      | exact sub_f (fun h => by unfold fieldsI fields at h; omega)
      | exact sub_iff ⟨fun _ => by unfold fieldsI fields; omega, fun _ => rfl⟩
      | exact sub_iff ⟨fun h' => by unfold fieldsI fields; simp at h'; omega, fun h' => by unfold fieldsI fields at h'; simp; omega⟩
      | (by_cases h0 : p.cs.length = 0
         · exact Sub.of_eq (by rw [h0, decide_eq_true (show fieldsI p by unfold fieldsI fields; omega)]; rfl)
         · exact Sub.of_eq (by rw [decide_eq_false (fun h : fieldsI p => by unfold fieldsI fields at h; omega), beq_eq_false_iff_ne.2 (by omega)]))
  · have hs := shapeOf_no p.k hk
    refine Bg c_Z39 mixed (go1 trivial ?_)
    refine Uc trivial (hs) (go1 trivial ?_)
    exact sub_f (fun h => hk h.1.1)
end Go.Proofs.YtgpdmgaemhelgaaGreat
