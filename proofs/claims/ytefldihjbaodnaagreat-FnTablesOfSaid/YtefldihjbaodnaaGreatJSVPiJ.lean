/-
  The tables that a plan scans. No condition.
-/
import Derived.Test.YtefldihjbaodnaaGreatKSDca
import Derived.Test.YtefldihjbaodnaaGreatJSVLaw
import Derived.Test.YtefldihjbaodnaaGreatJSVWidE
import Derived.Test.YtefldihjbaodnaaGreatJSVWidF
import Derived.Test.YtefldihjbaodnaaGreatJSVGo
import Derived.Test.YtefldihjbaodnaaGreatKSDce
import Derived.Test.YtefldihjbaodnaaGreatKSVPiI
import Derived.Test.YtefldihjbaodnaaGreatJSVPiD
import Derived.Test.YtefldihjbaodnaaGreatKSVPeD
set_option maxHeartbeats 4000000
set_option maxRecDepth 100000
set_option linter.unusedVariables false
set_option linter.unusedSimpArgs false
namespace Go.Proofs.YtefldihjbaodnaaGreat
open Go.RowKit
mutual
def scn (t : Int) : Pl → Bool
 | .mk k tb _ _ ks=>if k = 1 then tb == t else scnL t ks
def scnL (t : Int) : List Pl → Bool
 | []=>false
 | p :: l=>scn t p || scnL t l
end
theorem scnL_any (t : Int) : ∀ l : List Pl,scnL t l = l.any (scn t)
 | []=>by rw [scnL]; rfl
 | p :: l=>by rw [scnL,scnL_any t l,List.any_cons]
theorem scn_eq (t : Int) (p : Pl) : scn t p = if p.k = 1 then p.t == t else p.ks.any (scn t):=by
 cases p
 rw [scn,scnL_any]
 rfl
def placeL {α : Type} (p : α → Bool) (l : List α) : Int:=if l.any p then (l.findIdx p : Int) else -1
theorem placeL_at {α : Type} {p : α → Bool} {l : List α} {i : Nat} {x : α} (hx : l[i]? = some x) (hp : p x = true) (h : ∀ (j : Nat) (u : α),j < i → l[j]? = some u → p u = false) : placeL p l = i:=by
 have hlt:=(List.getElem?_eq_some_iff.1 hx).1
 have hxe:=(List.getElem?_eq_some_iff.1 hx).2
 have h1 : l.findIdx p = i:=(List.findIdx_eq hlt).2 ⟨by rw [hxe]; exact hp,fun j hj=>h j _ hj (List.getElem?_eq_getElem (by omega))⟩
 unfold placeL
 rw [if_pos (List.any_eq_true.2 ⟨x,List.mem_of_getElem? hx,hp⟩),h1]
theorem placeL_none {α : Type} {p : α → Bool} {l : List α} (h : ∀ u,u ∈ l → p u = false) : placeL p l = -1:=by
 unfold placeL
 rw [if_neg]
 intro ha
 obtain ⟨x,hx,hp⟩:=List.any_eq_true.1 ha
 rw [h x hx] at hp
 cases hp
theorem placeL_pos {α : Type} (p : α → Bool) (l : List α) : (0 ≤ placeL p l) ↔ l.any p = true:=by
 unfold placeL
 by_cases h : l.any p = true
 ·rw [if_pos h]; exact ⟨fun _=>h,fun _=>by omega⟩
 ·rw [if_neg h]; exact ⟨fun h'=>by omega,fun h'=>absurd h' h⟩
theorem indexP_ok (l : List Pl) (hl : l.length < 2000000) (t : Int) (h : ∀ x,x ∈ l → Does Tryz.prog 83 [.obj [I t]] [pD x,.ref 1000000 0] (Bo (scn t x)) [.obj [I t]]) : Does Tryz.prog 139 [.obj [I t]] [.sl 5 (l.map pD),.fn 83 [.ref 1000000 0]] (I (placeL (scn t) l)) [.obj [I t]]:=by
 refine Bk c_Z7 mixed 1 (go1 trivial ?_)
 refine dw_for (c:=1) (l:=fun i=>[(0,.sl 5 (l.map pD)),(1,.fn 83 [.ref 1000000 0]),(7,I l.length),(8,I i),(1000000,.obj [I t])]) l.length (fun i=>∀ (j : Nat) (u : Pl),j < i → l[j]? = some u → scn t u = false) 0 (by omega) (Wk.list [1000000] rfl rfl ?_) (fun i hi hJ=>?_) (Nat.zero_le _)
 ·repeat' (first|(conv in hold _=>simp (disch:=omega) only [go_sem])|exact trivial|exact Sub.refl _|omega)
  exact rfl
 ·rcases at_or_end hi with ⟨x,hx,hlt⟩ | rfl
  ·have hix:=h x (List.mem_of_getElem? hx)
   cases hq : scn t x with
   | true=>
    rw [hq] at hix
    refine go1 @hx ?_
    refine v_fn ((by kernel_rfl)) ?_
    refine UcR [1000000] trivial (hix) (go1 trivial ?_)
    refine fin_L [1000000] ?_ ?_ rfl ?_
    repeat' (first|(conv in hold _=>simp (disch:=omega) only [go_sem])|exact trivial|exact Sub.refl _|omega)
    exact Sub.of_eq (by rw [placeL_at hx hq hJ])
   | false=>
    rw [hq] at hix
    refine go1 @hx ?_
    refine v_fn ((by kernel_rfl)) ?_
    refine UcR [1000000] trivial (hix) (go1 trivial ?_)
    refine ⟨hlt,upto_next (p:=fun u=>scn t u = false) hx hJ hq,Wk.list [1000000] rfl rfl ?_⟩
    repeat' (first|(conv in hold _=>simp (disch:=omega) only [go_sem])|exact trivial|exact Sub.refl _|omega)
  ·refine go1 trivial ?_
   refine fin_L [1000000] ?_ ?_ rfl ?_
   repeat' (first|(conv in hold _=>simp (disch:=omega) only [go_sem])|exact trivial|exact Sub.refl _|omega)
   exact Sub.of_eq (by rw [placeL_none (upto_all (p:=fun u=>scn t u = false) hJ)])
theorem containsP_ok (l : List Pl) (hl : l.length < 2000000) (t : Int) (h : ∀ x,x ∈ l → Does Tryz.prog 83 [.obj [I t]] [pD x,.ref 1000000 0] (Bo (scn t x)) [.obj [I t]]) : Does Tryz.prog 82 [.obj [I t]] [.sl 5 (l.map pD),.fn 83 [.ref 1000000 0]] (Bo (l.any (scn t))) [.obj [I t]]:=by
 have h1:=indexP_ok l hl t h
 have h2:=placeL_pos (scn t) l
 refine Bk c_Z4 mixed 1 (go1 trivial ?_)
 refine UcR [1000000] trivial (h1) (go1 trivial ?_)
 have h3 : decide (0 ≤ placeL (scn t) l) = l.any (scn t):=by
  rw [Bool.eq_iff_iff,decide_eq_true_iff]
  exact h2
 refine fin_L [1000000] ?_ ?_ rfl ?_
 repeat' (first|(conv in hold _=>simp (disch:=omega) only [go_sem])|exact trivial|exact Sub.refl _|omega)
 rw [h3]
 exact Sub.refl _
theorem scans_ok (t : Int) : ∀ p : Pl,psz p ≤ 1048576 → Does Tryz.prog 37 [] [pD p,I t] (Bo (scn t p)) []:=by
 refine Pl.indA (fun p ih h=>?_)
 rw [psz_eq] at h
 have hlen:=pszL_len p.ks
 rw [scn_eq]
 by_cases hk : p.k = 1
 ·rw [if_pos hk]
  exact Bg c_Z173 mixed (go0 trivial)
 ·rw [if_neg hk]
  have hkid : ∀ x,x ∈ p.ks → Does Tryz.prog 83 [.obj [I t]] [pD x,.ref 1000000 0] (Bo (scn t x)) [.obj [I t]]:=fun x hx=>by
   have hix:=ih x hx (by have:=pszL_mem hx; omega)
   refine Bk c_Z157 mixed 1 (go1 trivial ?_)
   refine Uc trivial (hix) (go1 trivial ?_)
   refine fin_L [1000000] ?_ ?_ rfl ?_
   repeat' (first|(conv in hold _=>simp (disch:=omega) only [go_sem])|exact trivial|exact Sub.refl _|omega)
  have hc:=containsP_ok p.ks (by omega) t hkid
  refine Bg c_Z173 mixed (go1 trivial ?_)
  exact UcR [2000003] trivial (hc) (go0 trivial)
def tbs (p : Pl) (i : Nat) : List Int:=((List.range i).filter (fun t : Nat=>scn (t : Int) p)).map (fun t : Nat=>(t : Int))
theorem tbs_t {p : Pl} {i : Nat} (h : scn (i : Int) p = true) : tbs p (i + 1) = tbs p i ++ [(i : Int)]:=by
 unfold tbs
 rw [List.range_succ,List.filter_append,List.map_append,List.filter_cons,if_pos h]
 rfl
theorem tbs_f {p : Pl} {i : Nat} (h : scn (i : Int) p = false) : tbs p (i + 1) = tbs p i:=by
 unfold tbs
 rw [List.range_succ,List.filter_append,List.map_append,List.filter_cons,if_neg (by rw [h]; decide)]
 exact List.append_nil _
theorem tbs_le (p : Pl) (i : Nat) : (tbs p i).length ≤ i:=by
 unfold tbs
 rw [List.length_map]
 exact Nat.le_trans (List.length_filter_le ..) (by rw [List.length_range]; exact Nat.le_refl _)
theorem TablesOf_impl {ws : List Int} (hl : ws.length ≤ 1048576) {p : Pl} (hs : psz p ≤ 1048576) (hw : PV ws p ≠ 0) : Does Tryz.prog 10 [] [pD p,intsD ws] (intsD (tbs p ws.length)) []:=by
 obtain ⟨_,_,h2⟩:=PlanWidth_fn p hs ws hl
 have e0 : (PV ws p == 0) = false:=beq_eq_false_iff_ne.2 hw
 generalize PV ws p = w at *
 have t4 : ((tbs p ws.length).map I).take (tbs p ws.length).length = (tbs p ws.length).map I:=List.take_of_length_le (by rw [List.length_map]; exact Nat.le_refl _)
 refine Bg c_Z131 mixed (go1 trivial ?_)
 refine Uc @e0 (h2) (go1 @e0 ?_)
 refine dw_for (c:=2) (l:=fun i=>[(1,intsD ws),(2,.ref 1000000 0),(5,.own 1000001 1 (tbs p i).length),(12,I ws.length),(13,I i),(1000000,.obj [I p.k,I p.t,.sl 5 (p.es.map eD),intsD p.cs,.sl 5 (p.ks.map pD)]),(1000001,.row 1 ((tbs p i).map I))]) ws.length (fun _=>True) 0 trivial ((wk_row 5 2000099 1 (by decide) (by decide) rfl rfl).trans (Wk.list [2000002,2000099] rfl rfl ?_)) (fun i hi _=>?_) (Nat.zero_le _)
 ·repeat' (first|(conv in hold _=>simp (disch:=omega) only [go_sem])|exact trivial|exact Sub.refl _|omega)
  exact ⟨rfl,rfl,rfl⟩
 ·have hle:=tbs_le p i
  have hix:=scans_ok (i : Int) p hs
  by_cases hil : i < ws.length
  ·cases hq : scn (i : Int) p with
   | true=>
    rw [hq] at hix
    have hnx:=tbs_t hq
    refine go1 trivial ?_
    refine Uc trivial (hix) (go1 trivial ?_)
    refine ⟨hil,trivial,Wk.list [1000000,2000022] rfl rfl ?_⟩
    repeat' (first|(conv in hold _=>simp (disch:=omega) only [go_sem,List.length_map])|exact trivial|exact Sub.refl _|omega)
    rw [hnx,List.map_append,List.length_append]
    exact ⟨rfl,rfl⟩
   | false=>
    rw [hq] at hix
    have hnx:=tbs_f hq
    refine go1 trivial ?_
    refine Uc trivial (hix) (go1 trivial ?_)
    refine ⟨hil,trivial,Wk.list [1000000,1000001] rfl rfl ?_⟩
    repeat' (first|(conv in hold _=>simp (disch:=omega) only [go_sem])|exact trivial|exact Sub.refl _|omega)
    rw [hnx]
    exact ⟨rfl,rfl⟩
  ·obtain rfl : i = ws.length:=by omega
   refine go1F trivial ?_
   refine fin_wk (wk_frz 4 1000001 (by decide) (by decide) rfl ?_) ?_
   rotate_left
   (conv in hold _=>simp (disch:=omega) only [go_sem,t4,Nat.le_refl,List.length_map])
   ·refine fin_L [] ?_ ?_ rfl ?_
    repeat' (first|(conv in hold _=>simp (disch:=omega) only [go_sem])|exact trivial|exact Sub.refl _|omega)
   ·exact ints_pur _
end Go.Proofs.YtefldihjbaodnaaGreat
set_option maxHeartbeats 4000000
set_option maxRecDepth 100000
set_option linter.unusedVariables false
set_option linter.unusedSimpArgs false
namespace Go.Proofs.YtefldihjbaodnaaGreat
open Go.RowKit
theorem growR_ok (n : Nat) (h0 : 0 < n) (hn : n ≤ 1000000) : Does Tryz.prog 165 [] [.nul,I n] (.own 1000000 1 0) [.row 1 (List.replicate n .nul)]:=by
 have hp : D.renL [2000022] (List.replicate n .nul) = List.replicate n .nul:=by rw [D.renL_map,List.map_replicate]; rfl
 refine Bk c_Z6 mixed 0 (go1 (cj3 @cast0 @Int.sub_self @Int.sub_zero) ?_)
 refine fin_L [2000022] ?_ ?_ rfl ?_
 repeat' (first|(conv in hold _=>simp (disch:=omega) only [go_sem,cast0,Int.sub_self,Int.sub_zero,hp])|exact trivial|exact Sub.refl _|omega)
theorem growR_0 : Does Tryz.prog 165 [] [.nul,I 0] .nul []:=by
 exact Bg c_Z6 mixed (go0 (cj3 @cast0 @Int.sub_self @Int.sub_zero))
theorem concatR_own (a b : List (List V)) (hl : a.length + b.length ≤ 100000) : Does Tryz.prog 119 [] [.sl 1 [rowsD a,rowsD b]] (.own 1000000 1 (a.length + b.length)) [.row 1 ((a ++ b).map rowD)]:=by
 by_cases h0 : 0 < a.length + b.length
 ·have hg:=growR_ok (a.length + b.length) h0 (by omega)
  have e0 : (List.replicate (a.length + b.length) D.nul).take 0 = []:=rfl
  have ea:=take_all rowD a
  have hp : ∀ L,D.renL L (List.replicate (a.length + b.length) .nul) = List.replicate (a.length + b.length) .nul:=fun L=>by rw [D.renL_map,List.map_replicate]; rfl
  have ec : (((a.length + b.length : Nat) : Int)) = (a.length : Int) + (b.length : Int):=by omega
  refine Bk c_Z3 mixed 0 (go1 trivial ?_)
  refine dw_for (c:=0) (l:=fun i=>[(0,.sl 1 [rowsD a,rowsD b]),(3,I (at3 0 (a.length : Int) (a.length + b.length : Nat) i)),(9,.sl 1 [rowsD a,rowsD b]),(10,I 2),(11,I (at3 0 1 2 i))]) 2 (fun _=>True) 0 trivial (Wk.list [] rfl rfl ?_) (fun i hi _=>?_) (by decide)
  ·repeat' (first|(conv in hold _=>simp (disch:=omega) only [go_sem,at3_0,Int.reduceAdd])|exact trivial|exact Sub.refl _|omega)
   first | exact rfl | exact ⟨rfl,rfl⟩
  ·have h3 : i = 0 ∨ i = 1 ∨ i = 2:=by omega
   rcases h3 with rfl | rfl | rfl
   ·refine go1 (cj2 @at3_0 @Int.zero_add) ?_
    refine ⟨by decide,trivial,Wk.list [] rfl rfl ?_⟩
    repeat' (first|(conv in hold _=>simp (disch:=omega) only [go_sem,at3_1,Nat.reduceAdd,Int.reduceAdd])|exact trivial|exact Sub.refl _|omega)
   ·refine go1 @at3_1 ?_
    refine ⟨by decide,trivial,Wk.list [] rfl rfl ?_⟩
    repeat' (first|(conv in hold _=>simp (disch:=omega) only [go_sem,at3_2,Nat.reduceAdd,Int.reduceAdd,ec])|exact trivial|exact Sub.refl _|omega)
   ·refine go1 @at3_2 ?_
    refine UcR [3000001] trivial (hg) (go1 trivial ?_)
    refine dw_for (c:=1) (l:=fun i=>[(6,.own 1000000 1 (at3 0 a.length (a.length + b.length) i)),(25,.sl 1 [rowsD a,rowsD b]),(26,I 2),(27,I (at3 0 1 2 i)),(1000000,.row 1 (at3 (List.replicate (a.length + b.length) .nul) (a.map rowD) ((a ++ b).map rowD) i))]) 2 (fun _=>True) 0 trivial (Wk.list [3000001] rfl rfl ?_) (fun i hi _=>?_) (by decide)
    ·repeat' (first|(conv in hold _=>simp (disch:=omega) only [go_sem,at3_0,Int.reduceAdd,hp])|exact trivial|exact Sub.refl _|omega)
     first | exact rfl | exact ⟨rfl,rfl⟩
    ·have h3 : i = 0 ∨ i = 1 ∨ i = 2:=by omega
     rcases h3 with rfl | rfl | rfl
     ·refine go1 (cj2 @at3_0 @e0) ?_
      refine ⟨by decide,trivial,Wk.list [2000033] rfl rfl ?_⟩
      repeat' (first|(conv in hold _=>simp (disch:=omega) only [go_sem,at3_1,Nat.reduceAdd,Int.reduceAdd,e0])|exact trivial|exact Sub.refl _|omega)
     ·refine go1 (cj2 @at3_1 @ea) ?_
      refine ⟨by decide,trivial,Wk.list [2000033] rfl rfl ?_⟩
      repeat' (first|(conv in hold _=>simp (disch:=omega) only [go_sem,at3_2,Nat.reduceAdd,Int.reduceAdd,ea])|exact trivial|exact Sub.refl _|omega)
      rw [List.map_append]
     ·refine go1 @at3_2 ?_
      refine fin_L [1000000] ?_ ?_ rfl ?_
      repeat' (first|(conv in hold _=>simp (disch:=omega) only [go_sem,at3_2])|exact trivial|exact Sub.refl _|omega)
 ·obtain rfl : a = []:=List.eq_nil_of_length_eq_zero (by omega)
  obtain rfl : b = []:=List.eq_nil_of_length_eq_zero (by omega)
  have hg:=growR_0
  refine Bk c_Z3 mixed 0 (go1 trivial ?_)
  refine dw_for (c:=0) (l:=fun i=>[(0,.sl 1 [rowsD [],rowsD []]),(3,I 0),(9,.sl 1 [rowsD [],rowsD []]),(10,I 2),(11,I (at3 0 1 2 i))]) 2 (fun _=>True) 0 trivial (Wk.list [] rfl rfl ?_) (fun i hi _=>?_) (by decide)
  ·repeat' (first|(conv in hold _=>simp (disch:=omega) only [go_sem,at3_0,Int.reduceAdd])|exact trivial|exact Sub.refl _|omega)
   first | exact rfl | exact ⟨rfl,rfl⟩
  ·have h3 : i = 0 ∨ i = 1 ∨ i = 2:=by omega
   rcases h3 with rfl | rfl | rfl
   ·refine go1 (cj4 @at3_0 @Int.zero_add @cast0 @Int.add_zero) ?_
    refine ⟨by decide,trivial,Wk.list [] rfl rfl ?_⟩
    repeat' (first|(conv in hold _=>simp (disch:=omega) only [go_sem,at3_1,Nat.reduceAdd,Int.reduceAdd,cast0])|exact trivial|exact Sub.refl _|omega)
   ·refine go1 (cj3 @at3_1 @cast0 @Int.add_zero) ?_
    refine ⟨by decide,trivial,Wk.list [] rfl rfl ?_⟩
    repeat' (first|(conv in hold _=>simp (disch:=omega) only [go_sem,at3_2,Nat.reduceAdd,Int.reduceAdd,cast0])|exact trivial|exact Sub.refl _|omega)
   ·refine go1 @at3_2 ?_
    refine Uc trivial (hg) (go1 trivial ?_)
    refine dw_for (c:=1) (l:=fun i=>[(6,.own 1000000 1 0),(25,.sl 1 [rowsD [],rowsD []]),(26,I 2),(27,I (at3 0 1 2 i)),(1000000,.row 1 [])]) 2 (fun _=>True) 0 trivial ((wk_row 6 2000090 1 (by decide) (by decide) rfl rfl).trans (Wk.list [2000090] rfl rfl ?_)) (fun i hi _=>?_) (by decide)
    ·repeat' (first|(conv in hold _=>simp (disch:=omega) only [go_sem,at3_0,Int.reduceAdd])|exact trivial|exact Sub.refl _|omega)
     first | exact rfl | exact ⟨rfl,rfl⟩
    ·have h3 : i = 0 ∨ i = 1 ∨ i = 2:=by omega
     rcases h3 with rfl | rfl | rfl
     ·repeat' (first|with_reducible refine acc_none ?_ | (conv in hold _=>simp (disch:=omega) only [go_sem,at3_0,Int.reduceToNat,List.take_nil])|refine Stp.go ?_|(with_reducible first|refine it_pos rfl ?_|refine it_neg (by decide) ?_|refine st_nil rfl ?_|refine s_op ?_ ?_|exact trivial)|((with_reducible first|refine dw_reg0 ?_|refine dw_regB ?_);(conv=>arg 3;whnf))|(refine Spl.go (fun hq he=>?_) (fun hq he=>?_)<;>first|(exfalso;clear hq;omega)|((try first|(conv=>arg 8;simp only [hq])|(conv=>arg 4;simp only [hq]));clear hq))|((with_reducible first|refine c_split (fun hq=>?_) (fun hq=>?_)|refine q_split (fun hq=>?_) (fun hq=>?_))<;>(try first|(conv=>arg 8;simp only [hq])|(conv=>arg 4;simp only [hq])))|(with_reducible refine fin_0 ?_ (by first|rfl|(conv=>lhs;simp only [go_sem,at3_0,Int.reduceToNat,List.take_nil])) ?_)|exact Sub.refl _|omega)
      refine ⟨by decide,trivial,Wk.list [2000033] rfl rfl ?_⟩
      repeat' (first|(conv in hold _=>simp (disch:=omega) only [go_sem,at3_1,Nat.reduceAdd,Int.reduceAdd,List.take_nil])|exact trivial|exact Sub.refl _|omega)
     ·repeat' (first|with_reducible refine acc_none ?_ | (conv in hold _=>simp (disch:=omega) only [go_sem,at3_1,Int.reduceToNat,List.take_nil])|refine Stp.go ?_|(with_reducible first|refine it_pos rfl ?_|refine it_neg (by decide) ?_|refine st_nil rfl ?_|refine s_op ?_ ?_|exact trivial)|((with_reducible first|refine dw_reg0 ?_|refine dw_regB ?_);(conv=>arg 3;whnf))|(refine Spl.go (fun hq he=>?_) (fun hq he=>?_)<;>first|(exfalso;clear hq;omega)|((try first|(conv=>arg 8;simp only [hq])|(conv=>arg 4;simp only [hq]));clear hq))|((with_reducible first|refine c_split (fun hq=>?_) (fun hq=>?_)|refine q_split (fun hq=>?_) (fun hq=>?_))<;>(try first|(conv=>arg 8;simp only [hq])|(conv=>arg 4;simp only [hq])))|(with_reducible refine fin_0 ?_ (by first|rfl|(conv=>lhs;simp only [go_sem,at3_1,Int.reduceToNat,List.take_nil])) ?_)|exact Sub.refl _|omega)
      refine ⟨by decide,trivial,Wk.list [2000033] rfl rfl ?_⟩
      repeat' (first|(conv in hold _=>simp (disch:=omega) only [go_sem,at3_2,Nat.reduceAdd,Int.reduceAdd,List.take_nil])|exact trivial|exact Sub.refl _|omega)
     ·refine go1 @at3_2 ?_
      refine fin_L [1000000] ?_ ?_ rfl ?_
      repeat' (first|(conv in hold _=>simp (disch:=omega) only [go_sem,at3_2])|exact trivial|exact Sub.refl _|omega)
theorem keyRows (w : Nat) (hw : w < 1000) : KeyF 69 [] (fun x=>x) w (okR w) where
 ent:=by kernel_rfl
 pur:=rfl
 call x y hx hy:=compareRows_impl x y (by rw [hx.1,hy.1]) (by have:=hx.1; omega) hx.2 hy.2
 wid x hx:=hx
theorem distinctRows_p (rs : List (List V)) : Does Tryz.prog 120 [] [rowsD rs] (.fn 166 [.ptr [rowsD rs]]) []:=by
 refine Bg c_Z56 mixed (go1F trivial ?_)
 refine fin_wk (wk_fro 2 2000001 (by decide) (by decide) rfl ?_) ?_
 rotate_left
 (conv in hold _=>simp (disch:=omega) only [go_sem])
 ·refine fin_L [] ?_ ?_ rfl ?_
  repeat' (first|(conv in hold _=>simp (disch:=omega) only [go_sem])|exact trivial|exact Sub.refl _|omega)
 ·rfl
noncomputable def dstQ (rs : List (List V)) : List (List V):=(runK (fun x=>x) (srK (fun x=>x) rs)).map (fun g=>g.headD [])
theorem distinctRows_yields {w : Nat} (hw : w < 1000) (rs : List (List V)) (hs : RsW w rs) (hl : rs.length ≤ 400) : Yields Tryz.prog 166 [.ptr [rowsD rs]] ((dstQ rs).map tupR):=by
 have hK:=keyRows w hw
 have hsp:=srK_perm hK.wid hs
 have hsa:=srK_asc hK.wid hs
 have h1:=sortedRows_ok hK rs hs (by omega)
 have h2:=runsOfK_ok hK (srK (fun x=>x) rs)
 have hq : ∀ x,x ∈ srK (fun x=>x) rs → okR w x:=fun x hx=>hs x (hsp.mem_iff.1 hx)
 have hsl:=hsp.length_eq
 have hY:=runsK_yields hK hq hsa (by omega)
 unfold dstQ
 have hne : ∀ g,g ∈ runK (fun x=>x) (srK (fun x=>x) rs) → g[0]? = some (g.headD []) ∧ 0 < g.length:=fun g hg=>by
  cases g with
  | nil=>exact absurd rfl (runK_ne hg).1
  | cons x y=>exact ⟨rfl,Nat.succ_pos _⟩
 generalize srK (fun x=>x) rs = S at *
 have htk : (S.map rowD).take rs.length = S.map rowD:=by rw [← hsl]; exact take_all rowD S
 refine yields c_Z40 mixed (Nat.le_of_ble_eq_true rfl) (fun i e=>?_)
 conv=>arg 3; whnf
 refine go1 trivial ?_
 refine UcR [3000001] trivial (h1) (go1C trivial ?_)
 refine s_pre (pre_frz (t:=5) (g:=3000001) (by decide) (by decide) rfl ?_) ?_
 rotate_left
 refine go1 (cj2 @htk @hsl) ?_
 ·refine Uc trivial (h2) (go1 trivial ?_)
  generalize runK (fun x=>x) S = G at hY hne
  by_cases hel : e < G.length
  ·refine dw_rngX 200 [.ptr [rowsD S],.ptr [.fn 69 []]] (G.map tupS) e 1 1 [(2,.ref 1000000 0),(6,.fn 200 [.ptr [rowsD S],.ptr [.fn 69 []]])] (fun j=>[(1000000,.obj [.v (.func (.yield i) #[] #[])]),(gh,.gho i ((G.map (fun g=>g.headD [])).map tupR) e j)]) hY (by kernel_rfl) rfl (Nat.zero_le _) (Nat.le_refl _) (by decide) ?_ (fun j=>namesOK_of rfl) (Wk.list [2000002] rfl rfl ?_) rfl (fun j es h=>by obtain ⟨_,_,rfl⟩:=tupS_at h; rfl) (by rw [List.length_map]; exact hel) (fun j es hj h hp=>?_) (fun es h hp=>?_)
   ·simp (disch:=omega) only [go_sem,and_self,Nat.reduceLT]
   ·repeat' (first|(conv in hold _=>simp (disch:=omega) only [go_sem])|exact trivial|exact Sub.refl _|omega)
    try exact rfl
   ·obtain ⟨g,hg,rfl⟩:=tupS_at h
    obtain ⟨h0,hpos⟩:=hne g (List.mem_of_getElem? hg)
    refine go1 @h0 ?_
    refine v_yld (by ((conv=>lhs; simp (disch:=omega) only [go_sem]); try rfl)) ((show j ≤ e by omega)) ((by rw [List.getElem?_map,List.getElem?_map,hg]; rfl)) (by first | rfl | (simp only [go_sem])) ?_
    refine go1 trivial ?_
    refine Wk.list [1000000] rfl rfl ?_
    repeat' (first|(conv in hold _=>simp (disch:=omega) only [go_sem])|exact trivial|exact Sub.refl _|omega)
   ·obtain ⟨g,hg,rfl⟩:=tupS_at h
    obtain ⟨h0,hpos⟩:=hne g (List.mem_of_getElem? hg)
    refine go1 @h0 ?_
    refine v_yld (by ((conv=>lhs; simp (disch:=omega) only [go_sem]); try rfl)) ((Nat.le_refl e)) ((by rw [List.getElem?_map,List.getElem?_map,hg]; rfl)) (by first | rfl | (simp only [go_sem])) ?_
    refine go1 trivial ?_
    refine ⟨[(1000000,.obj [.v (.func (.yield i) #[] #[])]),(gh,.gho i ((G.map (fun g=>g.headD [])).map tupR) e (e + 1))],namesOK_of rfl,Wk.list [1000000] rfl rfl ?_,?_⟩
    ·repeat' (first|(conv in hold _=>simp (disch:=omega) only [go_sem])|exact trivial|exact Sub.refl _|omega)
    ·refine ⟨(e + 1),?_,?_⟩
     ·((conv=>lhs; simp (disch:=omega) only [go_sem]); try rfl)
     exact .inr ⟨rfl,by rw [List.length_map,List.length_map]; exact hel⟩
  ·refine dw_rng 200 [.ptr [rowsD S],.ptr [.fn 69 []]] (G.map tupS) 1 1 [(2,.ref 1000000 0),(6,.fn 200 [.ptr [rowsD S],.ptr [.fn 69 []]])] (fun j=>[(1000000,.obj [.v (.func (.yield i) #[] #[])]),(gh,.gho i ((G.map (fun g=>g.headD [])).map tupR) e j)]) hY (by kernel_rfl) rfl (Nat.zero_le _) (Nat.le_refl _) (by decide) ?_ (fun j=>namesOK_of rfl) (Wk.list [2000002] rfl rfl ?_) rfl (fun j es h=>by obtain ⟨_,_,rfl⟩:=tupS_at h; rfl) (fun j es h hp=>?_) ?_
   ·simp (disch:=omega) only [go_sem,and_self,Nat.reduceLT]
   ·repeat' (first|(conv in hold _=>simp (disch:=omega) only [go_sem])|exact trivial|exact Sub.refl _|omega)
    try exact rfl
   ·obtain ⟨g,hg,rfl⟩:=tupS_at h
    obtain ⟨h0,hpos⟩:=hne g (List.mem_of_getElem? hg)
    have hjl:=(List.getElem?_eq_some_iff.1 hg).1
    refine go1 @h0 ?_
    refine v_yld (by ((conv=>lhs; simp (disch:=omega) only [go_sem]); try rfl)) ((show j ≤ e by omega)) ((by rw [List.getElem?_map,List.getElem?_map,hg]; rfl)) (by first | rfl | (simp only [go_sem])) ?_
    refine go1 trivial ?_
    refine Wk.list [1000000] rfl rfl ?_
    repeat' (first|(conv in hold _=>simp (disch:=omega) only [go_sem])|exact trivial|exact Sub.refl _|omega)
   ·rw [List.length_map]
    refine go1 trivial ?_
    refine ⟨G.length,?_,?_⟩
    ·((conv=>lhs; simp (disch:=omega) only [go_sem]); try rfl)
    exact .inl ⟨by rw [List.length_map,List.length_map],by rw [List.length_map,List.length_map]; omega⟩
 ·exact rows_pur _
end Go.Proofs.YtefldihjbaodnaaGreat
