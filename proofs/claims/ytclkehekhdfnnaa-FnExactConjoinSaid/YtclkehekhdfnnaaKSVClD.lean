/-
  The copy of an expression, off a stack, by the program. No condition.
-/
import Derived.Test.YtclkehekhdfnnaaKSDca
import Derived.Test.YtclkehekhdfnnaaKSVClC
import Derived.Test.YtclkehekhdfnnaaSVGo
set_option maxHeartbeats 4000000
set_option maxRecDepth 100000
set_option linter.unusedVariables false
set_option linter.unusedSimpArgs false
namespace Go.Proofs.Ytclkehekhdfnnaa
open Go.RowKit
theorem dw_loopE {P : Program} {k : Nat} {a : DC} {σ : Env} {N : Env → Prop} {X : Nat → Env → Prop} {R : Env → Prop} {ι : Type} (c : ι → Nat) (l : ι → List (Nat × D)) (J : ι → Prop) (m : ι → Nat) (i : ι) (hJ : J i) (hw : Wk k σ (ofL (c i) (l i)))
  (h : ∀ i,J i → dwp P k a (hold (ofL (c i) (l i))) (fun τ=>∃ j,J j ∧ m j < m i ∧ Wk k τ (ofL (c j) (l j))) X R) : dwp P k (.loop a) σ N X R:=dw_loop (fun i=>ofL (c i) (l i)) J m i hJ hw h
abbrev ckD : D:=.fn 53 []
abbrev ozD : List D:=[I 0,I 0,Bo false,I 0,.nul]
def clJ (e0 : E) (x : trE.Lv × List E × Nat) : Prop:=trE.Wf x.2.1 x.1 ∧ (0 < x.2.2 ∨ x.1 = []) ∧ x.2.2 ≤ x.2.1.length ∧ Tr.bot x.2.1 x.1 = [e0] ∧ x.1.length + trE.lefts x.1 + trE.left x.2.1 x.2.2 ≤ 800000
theorem dis_E : Tr.Dis 5 2 1 4 ckD ozD:=⟨by decide,by decide,by decide,by decide,by decide,by decide,by decide,by decide,by decide,by decide,rfl,rfl⟩
theorem get_last {α : Type} (l : List α) (x : α) {m : Nat} (h : l.length = m) : (l ++ [x])[m]? = some x:=by
 subst h
 rw [List.getElem?_append_right (Nat.le_refl _),Nat.sub_self]
 rfl
theorem nbr (r : Nat) : nb + 3 + r = 1000003 + r:=by show 1000000 + 3 + r = _; omega
theorem cloneTree_ok (e0 : E) (hs : esz e0 ≤ 800000) : Does Try.prog 52 [] [eD e0,ckD] (eD e0) []:=by
 refine Bg c_Z1 mixed (go1 trivial ?_)
 refine dw_loopE (fun x : trE.Lv × List E × Nat=>3 + x.1.length) (fun x=>trE.core 5 2 1 4 ckD ozD x.1 x.2.1 x.2.2) (clJ e0) (fun x=>trE.lefts x.1 + trE.left x.2.1 x.2.2) ([],[e0],1) ?_ ?_ (fun x hJ=>?_)
 ·have h1 : trE.left [e0] 1 = esz e0:=by show esz e0 + 0 = esz e0; omega
  refine ⟨trivial,.inl Nat.zero_lt_one,Nat.le_refl _,rfl,?_⟩
  show 0 + 0 + trE.left [e0] 1 ≤ 800000
  omega
 ·refine (wk_objRow 2000002 (s:=5) (by decide) rfl (by decide) rfl).trans ((wk_refe 2 5 (by decide) rfl).trans ((wk_rowe 2000009 5 (by decide) rfl).trans (Wk.list [2000009,2000002,2000004] rfl rfl ?_)))
  show hold (agr _ _ [(5,.own 1000000 1 1),(2,.eref 1000001 5 0 0),(1,ckD),(4,.ref 1000002 0),(1000000,.row 1 [.eref 1000001 5 0 0]),(1000001,.row 5 [eD e0]),(1000002,.obj ozD)])
  repeat' (first|(conv in hold _=>simp (disch:=omega) only [go_sem])|exact trivial|exact Sub.refl _|omega)
 ·obtain ⟨lv,cs,p⟩:=x
  obtain ⟨hw,hp0,hp1,hb,hN⟩:=hJ
  have hw : trE.Wf cs lv:=hw
  have hp0 : 0 < p ∨ lv = []:=hp0
  have hp1 : p ≤ cs.length:=hp1
  have hb : Tr.bot (T:=trE) cs lv = [e0]:=hb
  have hN : lv.length + trE.lefts lv + trE.left cs p ≤ 800000:=hN
  cases p with
  | zero=>
   obtain rfl : lv = []:=hp0.resolve_left (Nat.lt_irrefl 0)
   obtain rfl : cs = [e0]:=hb
   show dwp _ 0 _ (hold (ofL 3 [(5,.own 1000000 1 0),(2,.eref 1000001 5 0 0),(1,ckD),(4,.ref 1000002 0),(1000000,.row 1 []),(1000001,.row 5 [eD e0]),(1000002,.obj ozD)])) _ _ _
   exact go0 trivial
  | succ i=>
   have hlt : i < cs.length:=by omega
   obtain ⟨e,he⟩ : ∃ e,cs[i]? = some e:=⟨_,List.getElem?_eq_getElem hlt⟩
   have hle:=Tr.left_succ (T:=trE) he
   have hsz : trE.size e = 1 + eszL e.ks:=by show esz e = _; exact esz_eq e
   have hpl:=Tr.pend_le (T:=trE) lv cs hw
   have hil : i ≤ trE.left cs i:=Tr.le_left (T:=trE) cs i (Nat.le_of_lt hlt)
   have hkl:=eszL_len e.ks
   have hSl : (trE.pend lv ++ trE.er 1000001 i).length = (trE.pend lv).length + i:=by rw [List.length_append,Tr.er_len]
   have hS : trE.pend lv ++ trE.er 1000001 (i + 1) = (trE.pend lv ++ trE.er 1000001 i) ++ [.eref 1000001 5 i 0]:=by rw [Tr.er_succ,List.append_assoc]; rfl
   have hget:=get_last (trE.pend lv ++ trE.er 1000001 i) (D.eref 1000001 5 i 0) hSl
   obtain ⟨g1,g2,g3,g5,g4⟩:=Tr.ofL_lv (T:=trE) lv 1000001 cs (3 + lv.length) (Nat.le_refl _)
   have hX : ofL (3 + lv.length) (trE.lvL 1000001 cs lv) 3000001 = .free:=g2 3000001 (by show 1000000 + (3 + lv.length) ≤ 3000001; omega)
   have hcore:=Tr.core_ok dis_E lv cs (i + 1)
   by_cases hk : e.ks = []
   ·have hck:=ck0_ok cs i e he hk
    show dwp _ 0 _ (hold (ofL (3 + lv.length) ((5,.own 1000000 1 ((trE.pend lv).length + i + 1)) :: (2,.eref (trE.rn lv) 5 0 0) :: (1,ckD) :: (4,.ref 1000002 0) :: (1000000,.row 1 (trE.pend lv ++ trE.er 1000001 (i + 1))) :: (1000001,.row 5 (cs.map eD)) :: (1000002,.obj ozD) :: trE.lvL 1000001 cs lv))) _ _ _
    rw [hS]
    repeat' (first|with_reducible refine acc_none ?_ | (conv in hold _=>simp (disch:=omega) only [go_sem,hget,hSl,List.length_append,List.length_singleton])|refine Stp.go ?_|(with_reducible first|refine it_pos rfl ?_|refine it_neg (by decide) ?_|refine st_nil rfl ?_|refine s_op ?_ ?_|exact trivial)|((with_reducible first|refine dw_reg0 ?_|refine dw_regB ?_);(conv=>arg 3;whnf))|(refine Spl.go (fun hq he=>?_) (fun hq he=>?_)<;>first|(exfalso;clear hq;omega)|((try first|(conv=>arg 8;simp only [hq])|(conv=>arg 4;simp only [hq]));clear hq))|((with_reducible first|refine c_split (fun hq=>?_) (fun hq=>?_)|refine q_split (fun hq=>?_) (fun hq=>?_))<;>(try first|(conv=>arg 8;simp only [hq])|(conv=>arg 4;simp only [hq])))|(with_reducible refine fin_0 ?_ (by first|rfl|(conv=>lhs;simp only [go_sem,hget,hSl,List.length_append,List.length_singleton])) ?_)|exact Sub.refl _|omega)
    refine v_fn ((by kernel_rfl)) ?_
    refine UcR [1000001] trivial (hck) (go1 trivial ?_)
    obtain ⟨L,hL⟩:=LW_nms (W:=nb) (K:=nb + 1) (d:=lv.length) (.inl rfl) (.inl rfl) (by omega)
    refine dw_for (c:=3 + lv.length) (l:=fun q=>[(7,.sl 5 []),(28,I 0),(29,I q)] ++ trE.core 5 2 1 4 ckD ozD lv cs i) 0 (fun _=>True) 0 trivial ?_ (fun q hq _=>?_) (Nat.zero_le _)
    ·refine (wk_cut 1000000 ((trE.pend lv).length + i) (by decide) rfl (by rw [List.length_append,hSl]; omega)).trans (Tr.wk_core dis_E ⟨rfl,rfl,rfl,rfl,rfl,?_,rfl,?_⟩ hL ⟨agr1_slot (by decide) rfl,agr1_slot (by decide) rfl,agr1_slot (by decide) rfl,trivial⟩)
     ·exact congrArg (D.row 1) (by rw [List.take_append_of_le_length (by rw [hSl]; exact Nat.le_refl _),List.take_of_length_le (by rw [hSl]; exact Nat.le_refl _)])
     ·refine Tr.LvOK.congr lv _ _ (fun r hr=>?_) g4
      rw [nbr]
      repeat rw [Env.set_ne _ _ _ _ (by omega)]
    ·obtain rfl : q = 0:=by omega
     show dwp _ 0 _ (hold (ofL (3 + lv.length) ((7,.sl 5 []) :: (28,I 0) :: (29,I 0) :: (5,.own 1000000 1 ((trE.pend lv).length + i)) :: (2,.eref (trE.rn lv) 5 0 0) :: (1,ckD) :: (4,.ref 1000002 0) :: (1000000,.row 1 (trE.pend lv ++ trE.er 1000001 i)) :: (1000001,.row 5 (cs.map eD)) :: (1000002,.obj ozD) :: trE.lvL 1000001 cs lv))) _ _ _
     refine go1 trivial ?_
     obtain ⟨lv',cs',p',n1,n2,n3,n4,n5,n6,n7⟩:=Tr.wk_norm dis_E lv cs i hw (Nat.le_of_lt hlt)
     refine ⟨(lv',cs',p'),⟨n1,n2,n3,n6.trans hb,?_⟩,?_,(Tr.wk_core dis_E (xs:=[]) ⟨rfl,rfl,rfl,rfl,rfl,rfl,rfl,?_⟩ hL trivial).trans n7⟩
     ·show lv'.length + trE.lefts lv' + trE.left cs' p' ≤ 800000
      omega
     ·show trE.lefts lv' + trE.left cs' p' < trE.lefts lv + trE.left cs (i + 1)
      omega
     ·refine Tr.LvOK.congr lv _ _ (fun r hr=>?_) g4
      rw [nbr]
      repeat rw [Env.set_ne _ _ _ _ (by omega)]
   ·have hkp : 0 < e.ks.length:=List.length_pos_iff.2 hk
    have hck:=ck_ok cs i e he hkp (by omega)
    have hwp : trE.Wf e.ks ((cs,i,e) :: lv):=⟨he,rfl,hw⟩
    have hpl2:=Tr.pend_le (T:=trE) ((cs,i,e) :: lv) e.ks hwp
    have hlf : trE.lefts ((cs,i,e) :: lv) = trE.lefts lv + trE.left cs i:=rfl
    have hal : trE.left e.ks e.ks.length = eszL e.ks:=(Tr.left_all (T:=trE) e.ks).trans (eszL_sum e.ks).symm
    show dwp _ 0 _ (hold (ofL (3 + lv.length) ((5,.own 1000000 1 ((trE.pend lv).length + i + 1)) :: (2,.eref (trE.rn lv) 5 0 0) :: (1,ckD) :: (4,.ref 1000002 0) :: (1000000,.row 1 (trE.pend lv ++ trE.er 1000001 (i + 1))) :: (1000001,.row 5 (cs.map eD)) :: (1000002,.obj ozD) :: trE.lvL 1000001 cs lv))) _ _ _
    rw [hS]
    repeat' (first|with_reducible refine acc_none ?_ | (conv in hold _=>simp (disch:=omega) only [go_sem,hget,hSl,List.length_append,List.length_singleton])|refine Stp.go ?_|(with_reducible first|refine it_pos rfl ?_|refine it_neg (by decide) ?_|refine st_nil rfl ?_|refine s_op ?_ ?_|exact trivial)|((with_reducible first|refine dw_reg0 ?_|refine dw_regB ?_);(conv=>arg 3;whnf))|(refine Spl.go (fun hq he=>?_) (fun hq he=>?_)<;>first|(exfalso;clear hq;omega)|((try first|(conv=>arg 8;simp only [hq])|(conv=>arg 4;simp only [hq]));clear hq))|((with_reducible first|refine c_split (fun hq=>?_) (fun hq=>?_)|refine q_split (fun hq=>?_) (fun hq=>?_))<;>(try first|(conv=>arg 8;simp only [hq])|(conv=>arg 4;simp only [hq])))|(with_reducible refine fin_0 ?_ (by first|rfl|(conv=>lhs;simp only [go_sem,hget,hSl,List.length_append,List.length_singleton])) ?_)|exact Sub.refl _|omega)
    refine v_fn ((by kernel_rfl)) ?_
    refine UcR [1000001,3000001] (cj2 @set_ren @hX) (hck) (go1 (cj2 @set_ren @hX) ?_)
    obtain ⟨L,hL,hLd⟩:=LP_nms (K:=3000001) (d:=lv.length) (by show 1000000 + 3 + lv.length ≤ 3000001; omega)
    refine dw_for (c:=3 + (lv.length + 1)) (l:=fun q=>[(7,.own 1000001 5 e.ks.length),(28,I e.ks.length),(29,I q)] ++ trE.core 5 2 1 4 ckD ozD ((cs,i,e) :: lv) e.ks q) e.ks.length (fun _=>True) 0 trivial ?_ (fun q hq _=>?_) (Nat.zero_le _)
    ·refine Tr.wk_push dis_E (K:=3000001) (by show 1000000 + 4 + lv.length ≤ 3000001; omega) rfl rfl rfl rfl rfl (congrArg (D.row 1) hS.symm) ?_ rfl ?_ hL hLd ⟨agr1_slot (by decide) ?_,agr1_slot (by decide) rfl,agr1_slot (by decide) rfl,trivial⟩ (fun x hx=>?_)
     ·exact congrArg (D.row 5) ((congrArg ((cs.map eD).set i) (holeE_ren e 1000001 e.ks.length [1000001,3000001] 3000001 rfl)))
     ·refine Tr.LvOK.congr lv _ _ (fun r hr=>?_) g4
      rw [nbr]
      repeat rw [Env.set_ne _ _ _ _ (by omega)]
     ·show _ = (D.own (nb + 1) 5 _).ren L
      rw [D.ren,hL.n1]
      rfl
     ·simp only [List.mem_cons,List.not_mem_nil,or_false] at hx
      rcases hx with rfl | rfl | rfl <;> first | (show (7 : Nat) < nb; decide) | (show (28 : Nat) < nb; decide) | (show (29 : Nat) < nb; decide)
    ·obtain ⟨q1,q2,q3,q5,q4⟩:=Tr.ofL_lv (T:=trE) ((cs,i,e) :: lv) 1000001 e.ks (3 + (lv.length + 1)) (by rw [List.length_cons]; exact Nat.le_refl _)
     obtain ⟨X,hXe⟩ : ∃ X,X = trE.lvL 1000001 e.ks ((cs,i,e) :: lv):=⟨_,rfl⟩
     obtain ⟨pd,hpd⟩ : ∃ pd,pd = trE.pend ((cs,i,e) :: lv):=⟨_,rfl⟩
     obtain ⟨ro,hro⟩ : ∃ ro,ro = trE.rn ((cs,i,e) :: lv):=⟨_,rfl⟩
     have hX6 : ofL (3 + (lv.length + 1)) X 2000036 = .free:=by rw [hXe]; exact q2 2000036 (by show 1000000 + (3 + (lv.length + 1)) ≤ 2000036; omega)
     have hX7 : ofL (3 + (lv.length + 1)) X 2000037 = .free:=by rw [hXe]; exact q2 2000037 (by show 1000000 + (3 + (lv.length + 1)) ≤ 2000037; omega)
     have hlen : (pd ++ trE.er 1000001 q).length = pd.length + q:=by rw [List.length_append,Tr.er_len]
     have htk : (pd ++ trE.er 1000001 q).take (pd.length + q) = pd ++ trE.er 1000001 q:=List.take_of_length_le (by rw [hlen]; exact Nat.le_refl _)
     have hpl3 : pd.length ≤ 800000:=by rw [hpd]; omega
     show dwp _ 0 _ (hold (ofL (3 + (lv.length + 1)) ((7,.own 1000001 5 e.ks.length) :: (28,I e.ks.length) :: (29,I q) :: (5,.own 1000000 1 ((trE.pend ((cs,i,e) :: lv)).length + q)) :: (2,.eref (trE.rn ((cs,i,e) :: lv)) 5 0 0) :: (1,ckD) :: (4,.ref 1000002 0) :: (1000000,.row 1 (trE.pend ((cs,i,e) :: lv) ++ trE.er 1000001 q)) :: (1000001,.row 5 (e.ks.map eD)) :: (1000002,.obj ozD) :: trE.lvL 1000001 e.ks ((cs,i,e) :: lv)))) _ _ _
     rw [← hXe,← hpd,← hro]
     by_cases hql : q < e.ks.length
     ·refine go1 (cj4 @hX6 @hX7 @hlen @htk) ?_
      obtain ⟨L2,hL2⟩:=LW_nms (W:=2000037) (K:=nb + 1) (d:=lv.length + 1) (.inr (by show 1000000 + 3 + (lv.length + 1) ≤ 2000037; omega)) (.inl rfl) (by decide)
      refine ⟨hql,trivial,Tr.wk_core (lv:=(cs,i,e) :: lv) dis_E ⟨congrArg (fun l : List D=>D.own 2000037 1 (l.length + q + 1)) hpd,congrArg (fun g=>D.eref g 5 0 0) hro,rfl,rfl,rfl,?_,rfl,?_⟩ hL2 ⟨agr1_slot (by decide) ?_,agr1_slot (by decide) rfl,agr1_slot (by decide) rfl,trivial⟩⟩
      ·show D.row 1 (pd ++ trE.er 1000001 q ++ [D.eref 1000001 5 q 0]) = _
       rw [hpd,Tr.er_succ,List.append_assoc]
       rfl
      ·refine Tr.LvOK.congr _ _ _ (fun r hr=>?_) q4
       rw [List.length_cons] at hr
       rw [nbr,← hXe]
       repeat rw [Env.set_ne _ _ _ _ (by omega)]
      ·show _ = (D.own (nb + 1) 5 _).ren L2
       rw [D.ren,hL2.n1]
       rfl
     ·obtain rfl : q = e.ks.length:=by omega
      refine go1 trivial ?_
      obtain ⟨lv',cs',p',n1,n2,n3,n4,n5,n6,n7⟩:=Tr.wk_norm dis_E ((cs,i,e) :: lv) e.ks e.ks.length hwp (Nat.le_refl _)
      obtain ⟨L2,hL2⟩:=LW_nms (W:=nb) (K:=nb + 1) (d:=lv.length + 1) (.inl rfl) (.inl rfl) (by decide)
      rw [List.length_cons] at n5
      refine ⟨(lv',cs',p'),⟨n1,n2,n3,n6.trans hb,?_⟩,?_,(Tr.wk_core (lv:=(cs,i,e) :: lv) (xs:=[]) dis_E ⟨congrArg (fun l : List D=>D.own 1000000 1 (l.length + e.ks.length)) hpd,congrArg (fun g=>D.eref g 5 0 0) hro,rfl,rfl,rfl,?_,rfl,?_⟩ hL2 trivial).trans n7⟩
      ·show lv'.length + trE.lefts lv' + trE.left cs' p' ≤ 800000
       omega
      ·show trE.lefts lv' + trE.left cs' p' < trE.lefts lv + trE.left cs (i + 1)
       omega
      ·exact congrArg (fun l : List D=>D.row 1 (l ++ trE.er 1000001 e.ks.length)) hpd
      ·refine Tr.LvOK.congr _ _ _ (fun r hr=>?_) q4
       rw [List.length_cons] at hr
       rw [nbr,← hXe]
       repeat rw [Env.set_ne _ _ _ _ (by omega)]
theorem cloneExpr_ok (e : E) (h : esz e ≤ 800000) : Does Try.prog 39 [] [eD e] (eD e) []:=by
 have h1:=cloneTree_ok e h
 rw [eD_eq] at h1
 rw [eD_eq]
 refine Bg c_Z10 mixed (go1 trivial ?_)
 exact Uc trivial (h1) (go0 trivial)
end Go.Proofs.Ytclkehekhdfnnaa
