/-
  The paths of all parts of a plan, and the steps that apply, plainly. No condition.
-/
import Derived.Test.YtgpdmgaemhelgaaGreatJSVPlanE
import Derived.Test.YtgpdmgaemhelgaaGreatKSDca
import Derived.Test.YtgpdmgaemhelgaaGreatJSVLaw
import Derived.Test.YtgpdmgaemhelgaaGreatKSDcg
import Derived.Test.YtgpdmgaemhelgaaGreatJSVRt
set_option maxHeartbeats 4000000
set_option maxRecDepth 100000
set_option linter.unusedVariables false
set_option linter.unusedSimpArgs false
namespace Go.Proofs.YtgpdmgaemhelgaaGreat
open Go.RowKit
mutual
def pathsP : Pl → List Int → List (List Int)
 | .mk _ _ _ _ ks,pre=>pre :: pathsL ks pre 0
def pathsL : List Pl → List Int → Nat → List (List Int)
 | [],_,_=>[]
 | p :: l,pre,i=>pathsP p (pre ++ [(i : Int)]) ++ pathsL l pre (i + 1)
end
theorem pathsP_eq (p : Pl) (pre : List Int) : pathsP p pre = pre :: pathsL p.ks pre 0:=by cases p; rfl
theorem pathsL_append : ∀ (l m : List Pl) (pre : List Int) (i : Nat),pathsL (l ++ m) pre i = pathsL l pre i ++ pathsL m pre (i + l.length)
 | [],m,pre,i=>by rw [List.nil_append,pathsL,List.nil_append]; rfl
 | p :: l,m,pre,i=>by
  rw [List.cons_append,pathsL,pathsL,pathsL_append l m,List.append_assoc,List.length_cons]
  congr 3
  omega
theorem pathsL_next {ks : List Pl} {pre : List Int} {i : Nat} {x : Pl} (h : ks[i]? = some x) : pathsL (ks.take (i + 1)) pre 0 = pathsL (ks.take i) pre 0 ++ pathsP x (pre ++ [(i : Int)]):=by
 have hl:=(List.getElem?_eq_some_iff.1 h).1
 rw [take_next h,pathsL_append,pathsL,pathsL,List.append_nil,Nat.zero_add,List.length_take,Nat.min_eq_left (by omega)]
mutual
theorem pathsP_len : ∀ (p : Pl) (pre : List Int),(pathsP p pre).length ≤ 1 + psz p
 | .mk k t es cs ks,pre=>by
  have:=pathsL_len ks pre 0
  rw [pathsP,List.length_cons,psz]
  omega
theorem pathsL_len : ∀ (l : List Pl) (pre : List Int) (i : Nat),(pathsL l pre i).length ≤ pszL l
 | [],pre,i=>Nat.zero_le _
 | p :: l,pre,i=>by
  have h1:=pathsP_len p (pre ++ [(i : Int)])
  have h2:=pathsL_len l pre (i + 1)
  rw [pathsL,List.length_append,pszL]
  omega
end
theorem pathsL_mem : ∀ {l : List Pl} {pre : List Int} {i : Nat} {x : List Int},x ∈ pathsL l pre i → ∃ (j : Nat) (p : Pl),p ∈ l ∧ x ∈ pathsP p (pre ++ [(j : Int)])
 | [],pre,i,x,h=>by cases h
 | p :: l,pre,i,x,h=>by
  rw [pathsL,List.mem_append] at h
  rcases h with h | h
  ·exact ⟨i,p,List.mem_cons_self ..,h⟩
  ·obtain ⟨j,q,hq,hx⟩:=pathsL_mem h
   exact ⟨j,q,List.mem_cons_of_mem _ hq,hx⟩
theorem pathsP_short {ws : List Int} {p : Pl} {d : Nat} {w : Int} (h : Wf ws p d w) : ∀ (pre l : List Int),l ∈ pathsP p pre → l.length ≤ pre.length + d:=by
 have main : ∀ {ks : List Pl} {pre l : List Int} {d : Nat},(∀ x,x ∈ ks → ∀ pre l : List Int,l ∈ pathsP x pre → l.length ≤ pre.length + d) → l ∈ pathsL ks pre 0 → l.length ≤ pre.length + (d + 1):=by
  intro ks pre l d hk hm
  obtain ⟨j,x,hx,hl⟩:=pathsL_mem hm
  have:=hk x hx _ _ hl
  rw [List.length_append,List.length_singleton] at this
  omega
 induction h with
 | @scan t d h=>
  intro pre l hl
  rw [pathsP_eq] at hl
  obtain rfl : l = pre:=by simpa [Pl.ks,pathsL] using hl
  omega
 | @filter e q d w hq he ih=>
  intro pre l hl
  rw [pathsP_eq] at hl
  rcases List.mem_cons.1 hl with rfl | hl
  ·omega
  ·exact main (fun x hx=>by obtain rfl:=List.mem_singleton.1 hx; exact ih) hl
 | @project es q d u hq hl he ih=>
  intro pre l hl
  rw [pathsP_eq] at hl
  rcases List.mem_cons.1 hl with rfl | hl
  ·omega
  ·exact main (fun x hx=>by obtain rfl:=List.mem_singleton.1 hx; exact ih) hl
 | @join k e q r d a b hk hq hr hab he ih1 ih2=>
  intro pre l hl
  rw [pathsP_eq] at hl
  rcases List.mem_cons.1 hl with rfl | hl
  ·omega
  ·exact main (fun x hx=>by
    rcases List.mem_cons.1 hx with rfl | hx
    ·exact ih1
    ·obtain rfl:=List.mem_singleton.1 hx; exact ih2) hl
 | @union q r d w hq hr ih1 ih2=>
  intro pre l hl
  rw [pathsP_eq] at hl
  rcases List.mem_cons.1 hl with rfl | hl
  ·omega
  ·exact main (fun x hx=>by
    rcases List.mem_cons.1 hx with rfl | hx
    ·exact ih1
    ·obtain rfl:=List.mem_singleton.1 hx; exact ih2) hl
 | @distinct q d w hq ih=>
  intro pre l hl
  rw [pathsP_eq] at hl
  rcases List.mem_cons.1 hl with rfl | hl
  ·omega
  ·exact main (fun x hx=>by obtain rfl:=List.mem_singleton.1 hx; exact ih) hl
 | @group cs q d w hq hc ih=>
  intro pre l hl
  rw [pathsP_eq] at hl
  rcases List.mem_cons.1 hl with rfl | hl
  ·omega
  ·exact main (fun x hx=>by obtain rfl:=List.mem_singleton.1 hx; exact ih) hl
noncomputable def stepsAt (ws : List Int) (p : Pl) (l : List Int) : Nat → List (Int × List Int)
 | 0=>[]
 | n + 1=>stepsAt ws p l n ++ if (apP ws ((n : Int) + 1) l p).isSome = true then [((n : Int) + 1,l)] else []
noncomputable def stepsTo (ws : List Int) (p : Pl) (ls : List (List Int)) : List (Int × List Int):=ls.flatMap fun l=>stepsAt ws p l 11
noncomputable def stepsP (ws : List Int) (p : Pl) : List (Int × List Int):=stepsTo ws p (pathsP p [])
theorem stepsAt_len (ws : List Int) (p : Pl) (l : List Int) : ∀ n,(stepsAt ws p l n).length ≤ n
 | 0=>Nat.le_refl _
 | n + 1=>by
  have:=stepsAt_len ws p l n
  rw [stepsAt,List.length_append]
  split
  ·rw [List.length_singleton]; omega
  ·rw [List.length_nil]; omega
theorem stepsTo_next {ws : List Int} {p : Pl} {ls : List (List Int)} {i : Nat} {l : List Int} (h : ls[i]? = some l) : stepsTo ws p (ls.take (i + 1)) = stepsTo ws p (ls.take i) ++ stepsAt ws p l 11:=by
 unfold stepsTo
 rw [take_next h,List.flatMap_append]
 simp
theorem stepsTo_len (ws : List Int) (p : Pl) : ∀ ls : List (List Int),(stepsTo ws p ls).length ≤ 11 * ls.length
 | []=>Nat.zero_le _
 | l :: ls=>by
  have h1:=stepsTo_len ws p ls
  have h2:=stepsAt_len ws p l 11
  unfold stepsTo at h1 ⊢
  rw [List.flatMap_cons,List.length_append,List.length_cons]
  omega
theorem stepsAt_mem {ws : List Int} {p : Pl} {l : List Int} {s : Int × List Int} : ∀ {n : Nat},s ∈ stepsAt ws p l n → s.2 = l ∧ 1 ≤ s.1 ∧ s.1 ≤ n
 | 0,h=>by cases h
 | n + 1,h=>by
  rw [stepsAt,List.mem_append] at h
  rcases h with h | h
  ·have:=stepsAt_mem h
   exact ⟨this.1,this.2.1,by omega⟩
  ·split at h
   ·obtain rfl:=List.mem_singleton.1 h
    exact ⟨rfl,by show (1 : Int) ≤ n + 1; omega,by show (n : Int) + 1 ≤ _; omega⟩
   ·cases h
theorem stepsP_mem {ws : List Int} {p : Pl} {s : Int × List Int} (h : s ∈ stepsP ws p) : s.2 ∈ pathsP p [] ∧ 1 ≤ s.1 ∧ s.1 ≤ 11:=by
 obtain ⟨l,hl,hs⟩:=List.mem_flatMap.1 h
 have:=stepsAt_mem hs
 exact ⟨by rw [this.1]; exact hl,this.2⟩
end Go.Proofs.YtgpdmgaemhelgaaGreat
set_option maxHeartbeats 4000000
set_option maxRecDepth 100000
set_option linter.unusedVariables false
set_option linter.unusedSimpArgs false
namespace Go.Proofs.YtgpdmgaemhelgaaGreat
open Go.RowKit
theorem I_sub1 (i n : Nat) : I ((n : Int) - i - 1) = I ((n : Int) - (i + 1)):=congrArg I (by omega)
theorem somePath_ok {bs : List Nat} (hs : Src bs) (p : Nat) (hp : p < 600000000) : ∃ (l : List Int) (q : Nat),Does Tryz.prog 83 [rdD bs p] [.ref 1000000 0] (intsD l) [rdD bs q] ∧ l.length ≤ 3 ∧ p ≤ q ∧ q ≤ p + 10:=by
 obtain ⟨k,hk,k0,k1,_⟩:=pick_ok hs p (by omega) 4 (by omega)
 have hk1:=k1 (by omega)
 obtain ⟨n,rfl⟩:=Int.eq_ofNat_of_zero_le k0
 obtain ⟨xs,ps,hl,h0,hd,hp0,hp1⟩:=draws (fun p (x : Int) q=>q = p + 1 ∧ Does Tryz.prog 82 [rdD bs p] [.ref 1000000 0,.sl 1 ([0,0,0,1,2,-1].map I)] (I x) [rdD bs q]) 700000000 1 (fun p hp=>by
  obtain ⟨x,hx,_⟩:=one_ok hs p (by omega) [0,0,0,1,2,-1] (by decide) (by decide)
  exact ⟨x,p + 1,⟨rfl,hx⟩,by omega,by omega⟩) n (p + 1) (by omega)
 refine ⟨xs,ps n,?_,by omega,by omega,by omega⟩
 refine does c_Z122 mixed (Nat.le_of_ble_eq_true rfl) 1 rfl ?_
 conv=>arg 3; whnf
 repeat' (first|with_reducible refine acc_none ?_ | (conv in hold _=>simp (disch:=omega) only [go_sem])|refine Stp.go ?_|(with_reducible first|refine it_pos rfl ?_|refine it_neg (by decide) ?_|refine st_nil rfl ?_|refine s_op ?_ ?_|exact trivial)|((with_reducible first|refine dw_reg0 ?_|refine dw_regB ?_);(conv=>arg 3;whnf))|(refine Spl.go (fun hq he=>?_) (fun hq he=>?_)<;>first|(exfalso;clear hq;omega)|((try first|(conv=>arg 8;simp only [hq])|(conv=>arg 4;simp only [hq]));clear hq))|((with_reducible first|refine c_split (fun hq=>?_) (fun hq=>?_)|refine q_split (fun hq=>?_) (fun hq=>?_))<;>(try first|(conv=>arg 8;simp only [hq])|(conv=>arg 4;simp only [hq])))|(with_reducible refine fin_0 ?_ (by first|rfl|(conv=>lhs;simp only [go_sem])) ?_)|exact Sub.refl _|omega)
 refine c_doesR [1000000] (hk) (callOK_of rfl (Nat.le_of_ble_eq_true rfl) rfl ?_ ?_) ?_ ?_
 ·repeat' (first|(conv in hold _=>simp (disch:=omega) only [go_sem])|exact trivial|exact Sub.refl _|omega)
 ·repeat' (first|(conv in hold _=>simp (disch:=omega) only [go_sem])|exact trivial|exact Sub.refl _|omega)
 ·((conv=>rhs;simp (disch:=omega) only [go_sem]); try rfl)
 repeat' (first|with_reducible refine acc_none ?_ | (conv in hold _=>simp (disch:=omega) only [go_sem])|refine Stp.go ?_|(with_reducible first|refine it_pos rfl ?_|refine it_neg (by decide) ?_|refine st_nil rfl ?_|refine s_op ?_ ?_|exact trivial)|((with_reducible first|refine dw_reg0 ?_|refine dw_regB ?_);(conv=>arg 3;whnf))|(refine Spl.go (fun hq he=>?_) (fun hq he=>?_)<;>first|(exfalso;clear hq;omega)|((try first|(conv=>arg 8;simp only [hq])|(conv=>arg 4;simp only [hq]));clear hq))|((with_reducible first|refine c_split (fun hq=>?_) (fun hq=>?_)|refine q_split (fun hq=>?_) (fun hq=>?_))<;>(try first|(conv=>arg 8;simp only [hq])|(conv=>arg 4;simp only [hq])))|(with_reducible refine fin_0 ?_ (by first|rfl|(conv=>lhs;simp only [go_sem])) ?_)|exact Sub.refl _|omega)
 refine dw_for (c:=2) (l:=fun i=>[(0,.ref 1000000 0),(3,.own 1000001 1 i),(4,I ((n : Int) - i)),(1000000,rdD bs (ps i)),(1000001,.row 1 ((xs.take i).map I))]) n (fun _=>True) 0 trivial ((wk_row 3 2000017 1 (by decide) (by decide) rfl rfl).trans (Wk.list [1000000,2000017] rfl rfl ?_)) (fun i hi _=>?_) (Nat.zero_le _)
 ·rw [h0]
  repeat' (first|(conv in hold _=>simp (disch:=omega) only [go_sem])|exact trivial|exact Sub.refl _|omega)
  (repeat' apply And.intro) <;> rfl
 ·have htl : (xs.take i).length = i:=by rw [List.length_take]; omega
  have hmt:=take_map I (vs:=xs) (i:=i) (by omega)
  by_cases hil : i < n
  ·obtain ⟨v,hv⟩ : ∃ v,xs[i]? = some v:=⟨_,List.getElem?_eq_getElem (by omega)⟩
   have hdi:=hd i v hv
   have hnx:=take_next hv
   repeat' (first|with_reducible refine acc_none ?_ | (conv in hold _=>simp (disch:=omega) only [go_sem])|refine Stp.go ?_|(with_reducible first|refine it_pos rfl ?_|refine it_neg (by decide) ?_|refine st_nil rfl ?_|refine s_op ?_ ?_|exact trivial)|((with_reducible first|refine dw_reg0 ?_|refine dw_regB ?_);(conv=>arg 3;whnf))|(refine Spl.go (fun hq he=>?_) (fun hq he=>?_)<;>first|(exfalso;clear hq;omega)|((try first|(conv=>arg 8;simp only [hq])|(conv=>arg 4;simp only [hq]));clear hq))|((with_reducible first|refine c_split (fun hq=>?_) (fun hq=>?_)|refine q_split (fun hq=>?_) (fun hq=>?_))<;>(try first|(conv=>arg 8;simp only [hq])|(conv=>arg 4;simp only [hq])))|(with_reducible refine fin_0 ?_ (by first|rfl|(conv=>lhs;simp only [go_sem])) ?_)|exact Sub.refl _|omega)
   refine c_doesR [1000000] (hdi.2) (callOK_of rfl (Nat.le_of_ble_eq_true rfl) rfl ?_ ?_) ?_ ?_
   ·repeat' (first|(conv in hold _=>simp (disch:=omega) only [go_sem])|exact trivial|exact Sub.refl _|omega)
   ·repeat' (first|(conv in hold _=>simp (disch:=omega) only [go_sem])|exact trivial|exact Sub.refl _|omega)
   ·((conv=>rhs;simp (disch:=omega) only [go_sem]); try rfl)
   repeat' (first|with_reducible refine acc_none ?_ | (conv in hold _=>simp (disch:=omega) only [go_sem])|refine Stp.go ?_|(with_reducible first|refine it_pos rfl ?_|refine it_neg (by decide) ?_|refine st_nil rfl ?_|refine s_op ?_ ?_|exact trivial)|((with_reducible first|refine dw_reg0 ?_|refine dw_regB ?_);(conv=>arg 3;whnf))|(refine Spl.go (fun hq he=>?_) (fun hq he=>?_)<;>first|(exfalso;clear hq;omega)|((try first|(conv=>arg 8;simp only [hq])|(conv=>arg 4;simp only [hq]));clear hq))|((with_reducible first|refine c_split (fun hq=>?_) (fun hq=>?_)|refine q_split (fun hq=>?_) (fun hq=>?_))<;>(try first|(conv=>arg 8;simp only [hq])|(conv=>arg 4;simp only [hq])))|(with_reducible refine fin_0 ?_ (by first|rfl|(conv=>lhs;simp only [go_sem])) ?_)|exact Sub.refl _|omega)
   refine ⟨hil,trivial,Wk.list [1000000,2000017] rfl rfl ?_⟩
   repeat' (first|(conv in hold _=>simp (disch:=omega) only [go_sem,List.length_map,htl])|exact trivial|exact Sub.refl _|omega)
   exact ⟨I_sub1 i n,by rw [hmt,hnx,List.map_append]; rfl⟩
  ·obtain rfl : i = n:=by omega
   have e1 : xs.take i = xs:=List.take_of_length_le (by omega)
   have e2 : (xs.map I).take i = xs.map I:=List.take_of_length_le (by rw [List.length_map]; omega)
   have e0 : (i : Int) - (i : Int) = 0:=by omega
   have e4 : (xs.map I).length = i:=by rw [List.length_map]; omega
   repeat' (first|with_reducible refine acc_none ?_ | (conv in hold _=>simp (disch:=omega) only [go_sem,e1,e0])|refine Stp.go ?_|(with_reducible first|refine it_pos rfl ?_|refine it_neg (by decide) ?_|refine st_nil rfl ?_|refine s_op ?_ ?_|exact trivial)|((with_reducible first|refine dw_reg0 ?_|refine dw_regB ?_);(conv=>arg 3;whnf))|(refine Spl.go (fun hq he=>?_) (fun hq he=>?_)<;>first|(exfalso;clear hq;omega)|((try first|(conv=>arg 8;simp only [hq])|(conv=>arg 4;simp only [hq]));clear hq))|((with_reducible first|refine c_split (fun hq=>?_) (fun hq=>?_)|refine q_split (fun hq=>?_) (fun hq=>?_))<;>(try first|(conv=>arg 8;simp only [hq])|(conv=>arg 4;simp only [hq])))|exact Sub.refl _|omega)
   refine fin_wk (wk_frz 2 1000001 (by decide) (by decide) rfl ?_) ?_
   rotate_left
   (conv in hold _=>simp (disch:=omega) only [go_sem,e2,e4,Nat.le_refl])
   ·refine fin_L [1000000] ?_ ?_ rfl ?_
    repeat' (first|(conv in hold _=>simp (disch:=omega) only [go_sem,intsD])|exact trivial|exact Sub.refl _|omega)
   ·exact ints_pur _
end Go.Proofs.YtgpdmgaemhelgaaGreat
set_option maxHeartbeats 4000000
set_option maxRecDepth 100000
set_option linter.unusedVariables false
set_option linter.unusedSimpArgs false
namespace Go.Proofs.YtgpdmgaemhelgaaGreat
open Go.RowKit
theorem wf_kid {ws : List Int} (hw : wsOk ws) {k : Pl} {d : Nat} {w : Int} (h : Wf ws k d w) (hd : d ≤ 8) : k.ks = [] ∨ ∃ (x : Pl) (l : List Pl) (a : Int),k.ks = x :: l ∧ Does Tryz.prog 95 [] [pD x,intsD ws,I 8] (I a) []:=by
 cases h with
 | scan h=>exact .inl rfl
 | filter hq he=>exact .inr ⟨_,_,_,rfl,(planW hw hq (by omega)).1⟩
 | project hq hl he=>exact .inr ⟨_,_,_,rfl,(planW hw hq (by omega)).1⟩
 | join hk hq hr hab he=>exact .inr ⟨_,_,_,rfl,(planW hw hq (by omega)).1⟩
 | union hq hr=>exact .inr ⟨_,_,_,rfl,(planW hw hq (by omega)).1⟩
 | distinct hq=>exact .inr ⟨_,_,_,rfl,(planW hw hq (by omega)).1⟩
 | group hq hc=>exact .inr ⟨_,_,_,rfl,(planW hw hq (by omega)).1⟩
theorem rf_no {ws : List Int} (hw : wsOk ws) {e : E} {k : Pl} {d : Nat} {w : Int} (hq : Wf ws k d w) (hd : d ≤ 8) (r : Int) (g1 : r = 1 → ¬ k.k = 2) (g2 : r = 2 → ¬ e.k = 8) (g3 : r = 3 → ¬ k.k = 4 ∧ ¬ k.k = 5) (g4 : r = 4 → ¬ k.k = 4) (g5 : r = 5 → ¬ k.k = 4) (g7 : r = 7 → ¬ k.k = 5) (g8 : r = 8 → ¬ k.k = 6) (g10 : r = 10 → ¬ k.k = 3) :
  Does Tryz.prog 141 [] [pD (.mk 2 0 [e] [] [k]),I r,intsD ws] (.tup [pD (.mk 2 0 [e] [] [k]),Bo false]) []:=by
 have hk:=(planW hw hq hd).1
 have hkid:=wf_kid hw hq hd
 clear hq
 obtain ⟨kk,kt,kes,kcs,kks⟩:=k
 simp only [Pl.k_mk,Pl.ks_mk] at g1 g3 g4 g5 g7 g8 g10 hkid
 rcases hkid with rfl | ⟨x,l,a,rfl,hx⟩
 ·refine does0 c_Z30 mixed (Nat.le_of_ble_eq_true rfl) ?_
  conv=>arg 3; whnf
  repeat' (first|with_reducible refine acc_none ?_ | (conv in hold _=>simp (disch:=omega) only [go_sem])|refine Stp.go ?_|(with_reducible first|refine it_pos rfl ?_|refine it_neg (by decide) ?_|refine st_nil rfl ?_|refine s_op ?_ ?_|exact trivial)|((with_reducible first|refine dw_reg0 ?_|refine dw_regB ?_);(conv=>arg 3;whnf))|(refine Spl.go (fun hq he=>?_) (fun hq he=>?_)<;>first|(exfalso;clear hq;omega)|((try first|(conv=>arg 8;simp only [hq])|(conv=>arg 4;simp only [hq]));clear hq))|((with_reducible first|refine c_split (fun hq=>?_) (fun hq=>?_)|refine q_split (fun hq=>?_) (fun hq=>?_))<;>(try first|(conv=>arg 8;simp only [hq])|(conv=>arg 4;simp only [hq])))|(with_reducible refine fin_0 ?_ (by first|rfl|(conv=>lhs;simp only [go_sem])) ?_)|exact Sub.refl _|omega)
  refine c_doesE (hk) ?_ ?_ ?_
  ·((try (conv=>rhs;simp (disch:=omega) only [go_sem])); try rfl)
  ·first|rfl|(conv=>lhs;simp only [go_sem])
  repeat' (first|with_reducible refine acc_none ?_ | (conv in hold _=>simp (disch:=omega) only [go_sem])|refine Stp.go ?_|(with_reducible first|refine it_pos rfl ?_|refine it_neg (by decide) ?_|refine st_nil rfl ?_|refine s_op ?_ ?_|exact trivial)|((with_reducible first|refine dw_reg0 ?_|refine dw_regB ?_);(conv=>arg 3;whnf))|(refine Spl.go (fun hq he=>?_) (fun hq he=>?_)<;>first|(exfalso;clear hq;omega)|((try first|(conv=>arg 8;simp only [hq])|(conv=>arg 4;simp only [hq]));clear hq))|((with_reducible first|refine c_split (fun hq=>?_) (fun hq=>?_)|refine q_split (fun hq=>?_) (fun hq=>?_))<;>(try first|(conv=>arg 8;simp only [hq])|(conv=>arg 4;simp only [hq])))|(with_reducible refine fin_0 ?_ (by first|rfl|(conv=>lhs;simp only [go_sem])) ?_)|exact Sub.refl _|omega)
 ·refine does0 c_Z30 mixed (Nat.le_of_ble_eq_true rfl) ?_
  conv=>arg 3; whnf
  repeat' (first|with_reducible refine acc_none ?_ | (conv in hold _=>simp (disch:=omega) only [go_sem])|refine Stp.go ?_|(with_reducible first|refine it_pos rfl ?_|refine it_neg (by decide) ?_|refine st_nil rfl ?_|refine s_op ?_ ?_|exact trivial)|((with_reducible first|refine dw_reg0 ?_|refine dw_regB ?_);(conv=>arg 3;whnf))|(refine Spl.go (fun hq he=>?_) (fun hq he=>?_)<;>first|(exfalso;clear hq;omega)|((try first|(conv=>arg 8;simp only [hq])|(conv=>arg 4;simp only [hq]));clear hq))|((with_reducible first|refine c_split (fun hq=>?_) (fun hq=>?_)|refine q_split (fun hq=>?_) (fun hq=>?_))<;>(try first|(conv=>arg 8;simp only [hq])|(conv=>arg 4;simp only [hq])))|(with_reducible refine fin_0 ?_ (by first|rfl|(conv=>lhs;simp only [go_sem])) ?_)|exact Sub.refl _|omega)
  refine c_doesE (hx) ?_ ?_ ?_
  ·((try (conv=>rhs;simp (disch:=omega) only [go_sem])); try rfl)
  ·first|rfl|(conv=>lhs;simp only [go_sem])
  repeat' (first|with_reducible refine acc_none ?_ | (conv in hold _=>simp (disch:=omega) only [go_sem])|refine Stp.go ?_|(with_reducible first|refine it_pos rfl ?_|refine it_neg (by decide) ?_|refine st_nil rfl ?_|refine s_op ?_ ?_|exact trivial)|((with_reducible first|refine dw_reg0 ?_|refine dw_regB ?_);(conv=>arg 3;whnf))|(refine Spl.go (fun hq he=>?_) (fun hq he=>?_)<;>first|(exfalso;clear hq;omega)|((try first|(conv=>arg 8;simp only [hq])|(conv=>arg 4;simp only [hq]));clear hq))|((with_reducible first|refine c_split (fun hq=>?_) (fun hq=>?_)|refine q_split (fun hq=>?_) (fun hq=>?_))<;>(try first|(conv=>arg 8;simp only [hq])|(conv=>arg 4;simp only [hq])))|(with_reducible refine fin_0 ?_ (by first|rfl|(conv=>lhs;simp only [go_sem])) ?_)|exact Sub.refl _|omega)
  refine c_doesE (hk) ?_ ?_ ?_
  ·((try (conv=>rhs;simp (disch:=omega) only [go_sem])); try rfl)
  ·first|rfl|(conv=>lhs;simp only [go_sem])
  repeat' (first|with_reducible refine acc_none ?_ | (conv in hold _=>simp (disch:=omega) only [go_sem])|refine Stp.go ?_|(with_reducible first|refine it_pos rfl ?_|refine it_neg (by decide) ?_|refine st_nil rfl ?_|refine s_op ?_ ?_|exact trivial)|((with_reducible first|refine dw_reg0 ?_|refine dw_regB ?_);(conv=>arg 3;whnf))|(refine Spl.go (fun hq he=>?_) (fun hq he=>?_)<;>first|(exfalso;clear hq;omega)|((try first|(conv=>arg 8;simp only [hq])|(conv=>arg 4;simp only [hq]));clear hq))|((with_reducible first|refine c_split (fun hq=>?_) (fun hq=>?_)|refine q_split (fun hq=>?_) (fun hq=>?_))<;>(try first|(conv=>arg 8;simp only [hq])|(conv=>arg 4;simp only [hq])))|(with_reducible refine fin_0 ?_ (by first|rfl|(conv=>lhs;simp only [go_sem])) ?_)|exact Sub.refl _|omega)
end Go.Proofs.YtgpdmgaemhelgaaGreat
