/-
  The part of a plan at a path, by both packages; plans compared by the laws. No condition.
-/
import Derived.Test.YtgpdmgaemhelgaaGreatKSDca
import Derived.Test.YtgpdmgaemhelgaaGreatJSDck
import Derived.Test.YtgpdmgaemhelgaaGreatJSVColsC
import Derived.Test.YtgpdmgaemhelgaaGreatJSVSmS
import Derived.Test.YtgpdmgaemhelgaaGreatJSVGo
import Derived.Test.YtgpdmgaemhelgaaGreatJSVVa
import Derived.Test.YtgpdmgaemhelgaaGreatJSVYld
import Derived.Test.YtgpdmgaemhelgaaGreatJSVFrzB
set_option maxHeartbeats 4000000
set_option maxRecDepth 100000
set_option linter.unusedVariables false
set_option linter.unusedSimpArgs false
namespace Go.Proofs.YtgpdmgaemhelgaaGreat
open Go.RowKit
theorem inRangeP_ok (n lo hi : Int) : Does Tryz.prog 136 [] [I n,I lo,I hi] (Bo (decide (lo ≤ n ∧ n ≤ hi))) []:=by
 refine does0 c_Z131 mixed (Nat.le_of_ble_eq_true rfl) ?_
 conv=>arg 3; whnf
 repeat' (first|with_reducible refine acc_none ?_ | (conv in hold _=>simp (disch:=omega) only [go_sem])|refine Stp.go ?_|(with_reducible first|refine it_pos rfl ?_|refine it_neg (by decide) ?_|refine st_nil rfl ?_|refine s_op ?_ ?_|exact trivial)|((with_reducible first|refine dw_reg0 ?_|refine dw_regB ?_);(conv=>arg 3;whnf))|(refine Spl.go (fun hq he=>?_) (fun hq he=>?_)<;>first|(exfalso;clear hq;omega)|((try first|(conv=>arg 8;simp only [hq])|(conv=>arg 4;simp only [hq]));clear hq))|((with_reducible first|refine c_split (fun hq=>?_) (fun hq=>?_)|refine q_split (fun hq=>?_) (fun hq=>?_))<;>(try first|(conv=>arg 8;simp only [hq])|(conv=>arg 4;simp only [hq])))|(with_reducible refine fin_0 ?_ (by first|rfl|(conv=>lhs;simp only [go_sem])) ?_)|exact Sub.refl _|omega)
 all_goals first
  | exact sub_t (by omega)
  | exact sub_f (by omega)
  | exact sub_iff (by simp; omega)
def pq (p : Pl) (l : List Int) (i : Nat) : Pl:=(paOf p (l.take i)).getD zP
theorem pq_next {p : Pl} {l : List Int} {i : Nat} {x : Int} {q : Pl} (h : l[i]? = some x) (ho : paOf p (l.take i) = some (pq p l i)) (hk : kidAt (pq p l i) x = some q) : paOf p (l.take (i + 1)) = some (pq p l (i + 1)) ∧ pq p l (i + 1) = q:=by
 have h1 : paOf p (l.take (i + 1)) = some q:=by rw [paOf_next h,ho]; exact hk
 have h2 : pq p l (i + 1) = q:=by unfold pq; rw [h1]; rfl
 exact ⟨by rw [h2]; exact h1,h2⟩
theorem paOf_stop {p : Pl} {l : List Int} {i : Nat} {x : Int} (h : l[i]? = some x) (ho : paOf p (l.take i) = some (pq p l i)) (hk : kidAt (pq p l i) x = none) : paOf p l = none:=by
 rw [← List.take_append_drop (i + 1) l,paOf_append,paOf_next h,ho]
 show ((kidAt (pq p l i) x).bind _) = none
 rw [hk]
 rfl
theorem partOf_ok (p : Pl) (l : List Int) (hl : l.length < 2000000) : Does Tryz.prog 85 [] [intsD l,pD p] (paD (paV 8 p l)) []:=by
 by_cases h8 : l.length ≤ 8
 ·suffices hh : ∀ r : D,(∀ q,paOf p l = some q → r = .tup [pD q,Bo true]) → (paOf p l = none → r = paD none) → Does Tryz.prog 85 [] [intsD l,pD p] r [] from by
   have hv : paV 8 p l = paOf p l:=if_pos h8
   rw [hv]
   exact hh _ (fun q h=>by rw [h]; rfl) (fun h=>by rw [h])
  intro r hy hn
  refine Bg c_Z23 mixed (go1 @intsD.eq_1 ?_)
  refine dw_for (c:=2) (l:=fun i=>[(3,.ref 1000000 0),(4,.ref 1000001 0),(5,Bo false),(12,intsD l),(13,I l.length),(14,I i),(1000000,.obj [I (pq p l i).k,I (pq p l i).t,.sl 5 ((pq p l i).es.map eD),intsD (pq p l i).cs,.sl 5 ((pq p l i).ks.map pD)]),(1000001,.obj [I 0,I 0,.nul,.nul,.nul])]) l.length (fun i=>paOf p (l.take i) = some (pq p l i)) 0 rfl (Wk.list [2000003,2000004] rfl rfl ?_) (fun i hi hJ=>?_) (Nat.zero_le _)
  ·repeat' (first|(conv in hold _=>simp (disch:=omega) only [go_sem,intsD])|exact trivial|exact Sub.refl _|omega)
   (repeat' apply And.intro) <;> rfl
  ·rcases at_or_end hi with ⟨x,hx,hlt⟩ | rfl
   ·cases hk : kidAt (pq p l i) x with
    | none=>
     have hno:=kidAt_none hk
     rw [hn (paOf_stop hx hJ hk)]
     repeat' (first|with_reducible refine acc_none ?_ | (conv in hold _=>simp (disch:=omega) only [go_sem,intsD,List.getElem?_map,hx,Option.map_some,List.length_map,paD_pur])|refine Stp.go ?_|(with_reducible first|refine it_pos rfl ?_|refine it_neg (by decide) ?_|refine st_nil rfl ?_|refine s_op ?_ ?_|exact trivial)|((with_reducible first|refine dw_reg0 ?_|refine dw_regB ?_);(conv=>arg 3;whnf))|(refine Spl.go (fun hq he=>?_) (fun hq he=>?_)<;>first|(exfalso;clear hq;omega)|((try first|(conv=>arg 8;simp only [hq])|(conv=>arg 4;simp only [hq]));clear hq))|((with_reducible first|refine c_split (fun hq=>?_) (fun hq=>?_)|refine q_split (fun hq=>?_) (fun hq=>?_))<;>(try first|(conv=>arg 8;simp only [hq])|(conv=>arg 4;simp only [hq])))|(with_reducible refine fin_0 ?_ (by first|rfl|(conv=>lhs;simp only [go_sem,intsD,List.getElem?_map,hx,Option.map_some,List.length_map,paD_pur])) ?_)|exact Sub.refl _|omega)
     all_goals exact zP_sub
    | some q=>
     obtain ⟨k0,k1,k2⟩:=kidAt_some hk
     obtain ⟨n1,n2⟩:=pq_next hx hJ hk
     refine go1 (cj3 @intsD.eq_1 @hx @k2) ?_
     refine ⟨hlt,n1,Wk.list [1000000,1000001] rfl rfl ?_⟩
     repeat' (first|(conv in hold _=>simp (disch:=omega) only [go_sem,n2,intsD])|exact trivial|exact Sub.refl _|omega)
   ·have e1 : l.take l.length = l:=List.take_length
    rw [e1] at hJ
    rw [hy _ hJ]
    exact go0 @intsD.eq_1
 ·have hv : paV 8 p l = none:=if_neg h8
  rw [hv]
  refine Bg c_Z23 mixed (go1 (cj2 @intsD.eq_1 @paD_pur) ?_)
  exact zP_sub
theorem planAt_ok (p : Pl) (hs : psz p ≤ 700000) (l : List Int) (hl : l.length < 2000000) : Does Tryz.prog 96 [] [pD p,intsD l] (paD (paOf p l)) []:=by
 suffices hh : ∀ r : D,(∀ q,paOf p l = some q → r = .tup [pD q,Bo true]) → (paOf p l = none → r = paD none) → Does Tryz.prog 96 [] [pD p,intsD l] r [] from
  hh _ (fun q h=>by rw [h]; rfl) (fun h=>by rw [h])
 intro r hy hn
 refine Bg c_Z153 mixed (go1 trivial ?_)
 refine dw_for (c:=2) (l:=fun i=>[(1,intsD l),(2,.ref 1000000 0),(4,.ref 1000001 0),(5,Bo false),(6,I i),(1000000,.obj [I (pq p l i).k,I (pq p l i).t,.sl 5 ((pq p l i).es.map eD),intsD (pq p l i).cs,.sl 5 ((pq p l i).ks.map pD)]),(1000001,.obj [I 0,I 0,.nul,.nul,.nul])]) l.length (fun i=>paOf p (l.take i) = some (pq p l i)) 0 rfl (Wk.list [2000002,2000004] rfl rfl ?_) (fun i hi hJ=>?_) (Nat.zero_le _)
 ·repeat' (first|(conv in hold _=>simp (disch:=omega) only [go_sem,intsD])|exact trivial|exact Sub.refl _|omega)
  (repeat' apply And.intro) <;> rfl
 ·rcases at_or_end hi with ⟨x,hx,hlt⟩ | rfl
  ·have hir:=inRangeP_ok x 0 (((pq p l i).ks.length : Int) - 1)
   have hkl:=pszL_len (pq p l i).ks
   have hpz:=paOf_sz _ _ _ hJ
   have hpe:=psz_eq (pq p l i)
   cases hk : kidAt (pq p l i) x with
   | none=>
    have hno:=kidAt_none hk
    rw [decide_eq_false (by omega)] at hir
    rw [hn (paOf_stop hx hJ hk)]
    refine go1 (cj3 @intsD.eq_1 @hx @paD_pur) ?_
    refine Uc (cj3 @intsD.eq_1 @hx @paD_pur) (hir) (go1 (cj3 @intsD.eq_1 @hx @paD_pur) ?_)
    all_goals exact zP_sub
   | some q=>
    obtain ⟨k0,k1,k2⟩:=kidAt_some hk
    obtain ⟨n1,n2⟩:=pq_next hx hJ hk
    rw [decide_eq_true (by omega)] at hir
    refine go1 (cj3 @intsD.eq_1 @hx @k2) ?_
    refine Uc (cj3 @intsD.eq_1 @hx @k2) (hir) (go1 (cj3 @intsD.eq_1 @hx @k2) ?_)
    refine ⟨hlt,n1,Wk.list [1000000,1000001] rfl rfl ?_⟩
    repeat' (first|(conv in hold _=>simp (disch:=omega) only [go_sem,n2,intsD])|exact trivial|exact Sub.refl _|omega)
  ·have e1 : l.take l.length = l:=List.take_length
   rw [e1] at hJ
   rw [hy _ hJ]
   exact go0 @intsD.eq_1
end Go.Proofs.YtgpdmgaemhelgaaGreat
set_option maxHeartbeats 4000000
set_option maxRecDepth 100000
set_option linter.unusedVariables false
set_option linter.unusedSimpArgs false
namespace Go.Proofs.YtgpdmgaemhelgaaGreat
open Go.RowKit
def tri {α : Type} (x y z : α) : Nat → α
 | 0=>x
 | 1=>y
 | _=>z
theorem tri_0 {α : Type} (x y z : α) : tri x y z 0 = x:=rfl
theorem tri_1 {α : Type} (x y z : α) : tri x y z 1 = y:=rfl
theorem tri_2 {α : Type} (x y z : α) : tri x y z 2 = z:=rfl
theorem cst0 : ((0 : Nat) : Int) = 0:=rfl
theorem growP_ok (n : Nat) (h0 : 0 < n) (hn : n ≤ 1000000) : Does Tryz.prog 204 [] [.nul,I n] (.own 1000000 1 0) [.row 1 (List.replicate n (I 0))]:=by
 have hp : D.renL [2000022] (List.replicate n (I 0)) = List.replicate n (I 0):=by rw [D.renL_map,List.map_replicate]; rfl
 refine Bk c_Z6 mixed 0 (go1 (cj3 @cst0 @Int.sub_self @Int.sub_zero) ?_)
 refine fin_L [2000022] ?_ ?_ rfl ?_
 all_goals exact Ag (cj4 @cst0 @Int.sub_self @Int.sub_zero @hp)
theorem concatP_own (a b : List Int) (h0 : 0 < a.length + b.length) (hl : a.length + b.length ≤ 1000000) : Does Tryz.prog 192 [] [.sl 1 [intsD a,intsD b]] (.own 1000000 1 (a.length + b.length)) [.row 1 ((a ++ b).map I)]:=by
 have hg:=growP_ok (a.length + b.length) h0 (by omega)
 have e0 : (List.replicate (a.length + b.length) (I 0)).take 0 = []:=rfl
 have ea:=take_all I a
 have hp : ∀ L,D.renL L (List.replicate (a.length + b.length) (I 0)) = List.replicate (a.length + b.length) (I 0):=fun L=>by rw [D.renL_map,List.map_replicate]; rfl
 have ec : (((a.length + b.length : Nat) : Int)) = (a.length : Int) + (b.length : Int):=by omega
 refine Bk c_Z4 mixed 0 (go1 trivial ?_)
 refine dw_for (c:=0) (l:=fun i=>[(0,.sl 1 [intsD a,intsD b]),(3,I (tri 0 (a.length : Int) (a.length + b.length : Nat) i)),(9,.sl 1 [intsD a,intsD b]),(10,I 2),(11,I (tri 0 1 2 i))]) 2 (fun _=>True) 0 trivial (Wk.list [] rfl rfl ?_) (fun i hi _=>?_) (by decide)
 ·repeat' (first|(conv in hold _=>simp (disch:=omega) only [go_sem,tri_0,Int.reduceAdd])|exact trivial|exact Sub.refl _|omega)
  first | exact rfl | exact ⟨rfl,rfl⟩
 ·have h3 : i = 0 ∨ i = 1 ∨ i = 2:=by omega
  rcases h3 with rfl | rfl | rfl
  ·refine go1 (cj2 @tri_0 @Int.zero_add) ?_
   refine ⟨by decide,trivial,Wk.list [] rfl rfl ?_⟩
   repeat' (first|(conv in hold _=>simp (disch:=omega) only [go_sem,tri_1,Nat.reduceAdd,Int.reduceAdd])|exact trivial|exact Sub.refl _|omega)
  ·refine go1 @tri_1 ?_
   refine ⟨by decide,trivial,Wk.list [] rfl rfl ?_⟩
   repeat' (first|(conv in hold _=>simp (disch:=omega) only [go_sem,tri_2,Nat.reduceAdd,Int.reduceAdd,ec])|exact trivial|exact Sub.refl _|omega)
  ·refine go1 @tri_2 ?_
   refine UcR [3000001] trivial (hg) (go1 trivial ?_)
   refine dw_for (c:=1) (l:=fun i=>[(6,.own 1000000 1 (tri 0 a.length (a.length + b.length) i)),(25,.sl 1 [intsD a,intsD b]),(26,I 2),(27,I (tri 0 1 2 i)),(1000000,.row 1 (tri (List.replicate (a.length + b.length) (I 0)) (a.map I) ((a ++ b).map I) i))]) 2 (fun _=>True) 0 trivial (Wk.list [3000001] rfl rfl ?_) (fun i hi _=>?_) (by decide)
   ·repeat' (first|(conv in hold _=>simp (disch:=omega) only [go_sem,tri_0,Int.reduceAdd,hp])|exact trivial|exact Sub.refl _|omega)
    first | exact rfl | exact ⟨rfl,rfl⟩
   ·have h3 : i = 0 ∨ i = 1 ∨ i = 2:=by omega
    rcases h3 with rfl | rfl | rfl
    ·refine go1 (cj2 @tri_0 @e0) ?_
     refine ⟨by decide,trivial,Wk.list [2000033] rfl rfl ?_⟩
     repeat' (first|(conv in hold _=>simp (disch:=omega) only [go_sem,tri_1,Nat.reduceAdd,Int.reduceAdd,e0])|exact trivial|exact Sub.refl _|omega)
    ·refine go1 (cj2 @tri_1 @ea) ?_
     refine ⟨by decide,trivial,Wk.list [2000033] rfl rfl ?_⟩
     repeat' (first|(conv in hold _=>simp (disch:=omega) only [go_sem,tri_2,Nat.reduceAdd,Int.reduceAdd,ea])|exact trivial|exact Sub.refl _|omega)
     rw [List.map_append]
    ·refine go1 @tri_2 ?_
     refine fin_L [1000000] ?_ ?_ rfl ?_
     all_goals exact Ag @tri_2
theorem below_ok (pre : List Int) (i : Nat) (hl : pre.length ≤ 900000) : Does Tryz.prog 177 [] [intsD pre,I i] (intsD (pre ++ [(i : Int)])) []:=by
 have hc:=concatP_own pre [(i : Int)] (by simp) (by simp; omega)
 have e1 : (pre ++ [(i : Int)]).length = pre.length + [(i : Int)].length:=List.length_append
 have hlm : ((pre ++ [(i : Int)]).map I).length = pre.length + [(i : Int)].length:=by rw [List.length_map,e1]
 have ht : ((pre ++ [(i : Int)]).map I).take (pre.length + [(i : Int)].length) = (pre ++ [(i : Int)]).map I:=List.take_of_length_le (by omega)
 have hpu : D.purL ((pre ++ [(i : Int)]).map I) = true:=ints_pur _
 unfold intsD at hc ⊢
 generalize (pre ++ [(i : Int)]).map I = rr at *
 have hrr:=fun L=>ren_pure.renL_pure L rr hpu
 generalize pre.length + [(i : Int)].length = n at *
 refine Bg c_Z28 mixed (go1F trivial ?_)
 refine UcR [3000001] trivial (hc) (go1F trivial ?_)
 refine fin_wk (wk_frz 4 3000001 (by decide) (by decide) rfl ?_) ?_
 rotate_left
 (conv in hold _=>simp (disch:=omega) only [go_sem,ht,hlm,hrr,Nat.le_refl])
 ·refine fin_L [] ?_ ?_ rfl ?_
  all_goals exact Ag (cj3 @ht @hlm @hrr)
 ·rw [hrr]; exact hpu
def tupP (x : List Int × Pl) : D:=.tup [intsD x.1,pD x.2]
theorem yieldParts_ok (i e : Nat) (L : List D) : ∀ p,psz p ≤ 600000 → ∀ (pre : List Int) (k k' : Nat) (b : Bool),pre.length + psz p ≤ 900000 → k ≤ e → (∀ j x,(ptP p pre)[j]? = some x → L[k + j]? = some (tupP x)) →
  k' = min (k + (ptP p pre).length) (e + 1) → b = decide (k + (ptP p pre).length ≤ e) → YCalls Tryz.prog 150 i L e [pD p,intsD pre,.v (.func (.yield i) #[] #[])] k (Bo b) k':=by
 refine Pl.indA (fun p ih hs pre k k' b hpre hk hL hk' hb=>?_)
 have hps:=psz_eq p
 have hlk:=pszL_len p.ks
 have hN : (ptP p pre).length = 1 + (ptL p.ks pre 0).length:=by rw [ptP_eq,List.length_cons]; omega
 have h0 : L[k]? = some (.tup [intsD pre,pD p]):=hL 0 (pre,p) (by rw [ptP_eq]; rfl)
 rw [pD_eq] at h0
 have htk:=ptL_take p.ks pre
 refine ycalls_of c_Z69 mixed (Nat.le_of_ble_eq_true rfl) rfl ?_
 conv=>arg 3; whnf
 refine go1 trivial ?_
 refine v_yld (by ((conv=>lhs; simp (disch:=omega) only [go_sem]); try rfl)) (hk) (h0) (by first | rfl | (simp only [go_sem])) ?_
 repeat' (first|with_reducible refine acc_none ?_ | (conv in hold _=>simp (disch:=omega) only [go_sem])|refine Stp.go ?_|(with_reducible first|refine it_pos rfl ?_|refine it_neg (by decide) ?_|refine st_nil rfl ?_|refine s_op ?_ ?_|exact trivial)|((with_reducible first|refine dw_reg0 ?_|refine dw_regB ?_);(conv=>arg 3;whnf))|(refine Spl.go (fun hq he=>?_) (fun hq he=>?_)<;>first|(exfalso;clear hq;omega)|((try first|(conv=>arg 8;simp only [hq])|(conv=>arg 4;simp only [hq]));clear hq))|((with_reducible first|refine c_split (fun hq=>?_) (fun hq=>?_)|refine q_split (fun hq=>?_) (fun hq=>?_))<;>(try first|(conv=>arg 8;simp only [hq])|(conv=>arg 4;simp only [hq])))|(with_reducible refine fin_0 ?_ (by first|rfl|(conv=>lhs;simp only [go_sem])) ?_)|exact Sub.refl _|omega)
 ·have hke : k = e:=Classical.byContradiction he
  obtain rfl : k' = k + 1:=by omega
  obtain rfl : b = false:=by rw [hb]; exact decide_eq_false (by omega)
  refine ⟨?_,?_,?_⟩
  ·((conv=>lhs; simp (disch:=omega) only [go_sem]); try rfl)
  ·first | exact True.intro | (repeat' apply And.intro) <;> exact True.intro
  ·((conv=>lhs; simp (disch:=omega) only [go_sem]); try rfl)
 ·have hke : k < e:=by omega
  refine dw_for (c:=1) (l:=fun j=>[(1,intsD pre),(2,.v (.func (.yield i) #[] #[])),(3,.ref 1000000 0),(15,.sl 5 (p.ks.map pD)),(16,I p.ks.length),(17,I j),(1000000,.obj [I p.k,I p.t,.sl 5 (p.es.map eD),intsD p.cs,.sl 5 (p.ks.map pD)]),(gh,.gho i L e (k + (1 + (ptL (p.ks.take j) pre 0).length)))]) p.ks.length (fun j=>k + (1 + (ptL (p.ks.take j) pre 0).length) ≤ e) 0 (by rw [List.take_zero,ptL]; show k + 1 ≤ e; omega) (Wk.list [2000003] rfl rfl ?_) (fun j hj hJ=>?_) (Nat.zero_le _)
  ·repeat' (first|(conv in hold _=>simp (disch:=omega) only [go_sem,List.take_zero,ptL])|exact trivial|exact Sub.refl _|omega)
   (repeat' apply And.intro) <;> rfl
  ·rcases at_or_end hj with ⟨x,hx0,hlt⟩ | rfl
   ·have hxs:=pszL_mem (List.mem_of_getElem? hx0)
    have hb1:=below_ok pre j (by omega)
    have hnx:=ptL_next (pre:=pre) hx0
    have hle:=htk (j + 1)
    rw [hnx,List.length_append] at hle
    have hcx:=fun (k1 : Nat) (b1 : Bool)=>ih x (List.mem_of_getElem? hx0) (by omega) (pre ++ [(j : Int)]) (k + (1 + (ptL (p.ks.take j) pre 0).length)) k1 b1 (by rw [List.length_append,List.length_singleton]; omega) hJ (fun j2 y hy=>by
     have:=hL (1 + (ptL (p.ks.take j) pre 0).length + j2) y (by
      rw [ptP_eq,show 1 + (ptL (p.ks.take j) pre 0).length + j2 = ((ptL (p.ks.take j) pre 0).length + j2) + 1 by omega,List.getElem?_cons_succ]
      have h1:=ptL_append (p.ks.take (j + 1)) (p.ks.drop (j + 1)) pre 0
      rw [List.take_append_drop,hnx,List.append_assoc] at h1
      rw [h1,List.getElem?_append_right (by omega),Nat.add_sub_cancel_left,List.getElem?_append_left (List.getElem?_eq_some_iff.1 hy).1]
      exact hy)
     rw [← Nat.add_assoc] at this
     exact this)
    rw [pD_eq x] at hcx
    rw [hnx,List.length_append]
    generalize (ptL (p.ks.take j) pre 0).length = c at *
    generalize (ptP x (pre ++ [(j : Int)])).length = cx at *
    unfold intsD at hb1 hcx
    by_cases hall : k + (1 + c) + cx ≤ e
    ·have hy:=hcx (k + (1 + c) + cx) true (by omega) (by rw [decide_eq_true hall])
     refine go1 (cj2 @hx0 @intsD.eq_1) ?_
     refine Uc trivial (hb1) (go1C trivial ?_)
     refine s_ycall (by ((conv=>lhs; simp (disch:=omega) only [go_sem]); try rfl)) (hy) (by ((conv=>lhs; simp (disch:=omega) only [go_sem]); try rfl)) (by first | rfl | (simp only [go_sem])) (by first | rfl | (simp only [go_sem])) ?_
     refine go1 trivial ?_
     refine ⟨hlt,by omega,Wk.list [1000000] rfl rfl ?_⟩
     repeat' (first|(conv in hold _=>simp (disch:=omega) only [go_sem,intsD])|exact trivial|exact Sub.refl _|omega)
     exact congrArg (fun n=>D.gho i L e n) (by omega)
    ·have hy:=hcx (e + 1) false (by omega) (by rw [decide_eq_false hall])
     obtain rfl : k' = e + 1:=by omega
     obtain rfl : b = false:=by rw [hb]; exact decide_eq_false (by omega)
     refine go1 (cj2 @hx0 @intsD.eq_1) ?_
     refine Uc trivial (hb1) (go1C trivial ?_)
     refine s_ycall (by ((conv=>lhs; simp (disch:=omega) only [go_sem]); try rfl)) (hy) (by ((conv=>lhs; simp (disch:=omega) only [go_sem]); try rfl)) (by first | rfl | (simp only [go_sem])) (by first | rfl | (simp only [go_sem])) ?_
     refine go1 trivial ?_
     refine ⟨?_,?_,?_⟩
     ·((conv=>lhs; simp (disch:=omega) only [go_sem]); try rfl)
     ·first | exact True.intro | (repeat' apply And.intro) <;> exact True.intro
     ·((conv=>lhs; simp (disch:=omega) only [go_sem]); try rfl)
   ·rw [List.take_length] at *
    obtain rfl : k' = k + (1 + (ptL p.ks pre 0).length):=by omega
    obtain rfl : b = true:=by rw [hb]; exact decide_eq_true (by omega)
    refine go1 trivial ?_
    refine ⟨?_,?_,?_⟩
    ·((conv=>lhs; simp (disch:=omega) only [go_sem]); try rfl)
    ·first | exact True.intro | (repeat' apply And.intro) <;> exact True.intro
    ·((conv=>lhs; simp (disch:=omega) only [go_sem]); try rfl)
theorem partsOf_yields (p : Pl) (hs : psz p ≤ 600000) : Yields Tryz.prog 149 [.ptr [I p.k,I p.t,.sl 5 (p.es.map eD),intsD p.cs,.sl 5 (p.ks.map pD)]] ((ptP p []).map tupP):=by
 have hy:=fun (i e : Nat)=>(yieldParts_ok i e ((ptP p []).map tupP) p hs [] 0 (min (0 + (ptP p []).length) (e + 1)) (decide (0 + (ptP p []).length ≤ e)) (by simp; omega) (Nat.zero_le _) (fun j x hx=>by rw [Nat.zero_add,List.getElem?_map,hx]; rfl) rfl rfl).weak (es:=[pD p,.nul,.v (.func (.yield i) #[] #[])]) ⟨Sub.refl _,Sub.nul 1,Sub.refl _,trivial⟩ (Sub.refl _)
 rw [pD_eq p] at hy
 simp only [Nat.zero_add] at hy
 unfold intsD at hy
 refine yields c_Z84 mixed (Nat.le_of_ble_eq_true rfl) (fun i e=>?_)
 conv=>arg 3; whnf
 refine go1C trivial ?_
 refine s_ycall (by ((conv=>lhs; simp (disch:=omega) only [go_sem]); try rfl)) ((hy i e)) (by ((conv=>lhs; simp (disch:=omega) only [go_sem]); try rfl)) (by first | rfl | (simp only [go_sem])) (by first | rfl | (simp only [go_sem])) ?_
 refine go1 trivial ?_
 refine ⟨(min (ptP p []).length (e + 1)),?_,?_⟩
 ·((conv=>lhs; simp (disch:=omega) only [go_sem]); try rfl)
 simp only [List.length_map]
 omega
theorem partsOf_ok (p : Pl) : Does Tryz.prog 107 [] [pD p] (.fn 149 [.ptr [I p.k,I p.t,.sl 5 (p.es.map eD),intsD p.cs,.sl 5 (p.ks.map pD)]]) []:=by
 refine Bg c_Z116 mixed (go1F trivial ?_)
 refine fin_wk (wk_fro 2 2000001 (by decide) (by decide) rfl ?_) ?_
 rotate_left
 (conv in hold _=>simp (disch:=omega) only [go_sem])
 ·refine fin_L [] ?_ ?_ rfl ?_
  all_goals exact Ag trivial
 ·rfl
end Go.Proofs.YtgpdmgaemhelgaaGreat
