/-
  The copy of a plan, off a stack, by the program. No condition.
-/
import Derived.Test.YtgpdmgaemhelgaaGreatKSDca
import Derived.Test.YtgpdmgaemhelgaaGreatJSDce
import Derived.Test.YtgpdmgaemhelgaaGreatKSVClR
import Derived.Test.YtgpdmgaemhelgaaGreatJSVYld
import Derived.Test.YtgpdmgaemhelgaaGreatKSDcd
import Derived.Test.YtgpdmgaemhelgaaGreatJSVCond
set_option maxHeartbeats 4000000
set_option maxRecDepth 100000
set_option linter.unusedVariables false
set_option linter.unusedSimpArgs false
namespace Go.Proofs.YtgpdmgaemhelgaaGreat
open Go.RowKit
abbrev cpD : D:=.fn 89 []
abbrev opD0 : List D:=[I 0,I 0,.nul,.nul,.nul]
def clJP (e0 : Pl) (x : trP.Lv × List Pl × Nat) : Prop:=trP.Wf x.2.1 x.1 ∧ (0 < x.2.2 ∨ x.1 = []) ∧ x.2.2 ≤ x.2.1.length ∧ Tr.bot x.2.1 x.1 = [e0] ∧ x.1.length + trP.lefts x.1 + trP.left x.2.1 x.2.2 ≤ 800000
theorem dis_P : Tr.Dis 5 2 1 4 cpD opD0:=⟨by decide,by decide,by decide,by decide,by decide,by decide,by decide,by decide,by decide,by decide,rfl,rfl⟩
theorem cloneTreeP_ok (e0 : Pl) (hs : psz e0 ≤ 700000) : Does Tryz.prog 88 [] [pD e0,cpD] (pD e0) []:=by
 refine Bg c_Z7 mixed (go1 trivial ?_)
 refine dw_loopE (fun x : trP.Lv × List Pl × Nat=>3 + x.1.length) (fun x=>trP.core 5 2 1 4 cpD opD0 x.1 x.2.1 x.2.2) (clJP e0) (fun x=>trP.lefts x.1 + trP.left x.2.1 x.2.2) ([],[e0],1) ?_ ?_ (fun x hJ=>?_)
 ·have h1 : trP.left [e0] 1 = 1 + psz e0:=by show (1 + psz e0) + 0 = 1 + psz e0; omega
  refine ⟨trivial,.inl Nat.zero_lt_one,Nat.le_refl _,rfl,?_⟩
  show 0 + 0 + trP.left [e0] 1 ≤ 800000
  omega
 ·refine (wk_objRow 2000002 (s:=5) (by decide) rfl (by decide) rfl).trans ((wk_refe 2 5 (by decide) rfl).trans ((wk_rowe 2000009 5 (by decide) rfl).trans (Wk.list [2000009,2000002,2000004] rfl rfl ?_)))
  show hold (agr _ _ [(5,.own 1000000 1 1),(2,.eref 1000001 5 0 0),(1,cpD),(4,.ref 1000002 0),(1000000,.row 1 [.eref 1000001 5 0 0]),(1000001,.row 5 [pD e0]),(1000002,.obj opD0)])
  repeat' (first|(conv in hold _=>simp (disch:=omega) only [go_sem])|exact trivial|exact Sub.refl _|omega)
 ·obtain ⟨lv,cs,p⟩:=x
  obtain ⟨hw,hp0,hp1,hb,hN⟩:=hJ
  have hw : trP.Wf cs lv:=hw
  have hp0 : 0 < p ∨ lv = []:=hp0
  have hp1 : p ≤ cs.length:=hp1
  have hb : Tr.bot (T:=trP) cs lv = [e0]:=hb
  have hN : lv.length + trP.lefts lv + trP.left cs p ≤ 800000:=hN
  cases p with
  | zero=>
   obtain rfl : lv = []:=hp0.resolve_left (Nat.lt_irrefl 0)
   obtain rfl : cs = [e0]:=hb
   show dwp _ 0 _ (hold (ofL 3 [(5,.own 1000000 1 0),(2,.eref 1000001 5 0 0),(1,cpD),(4,.ref 1000002 0),(1000000,.row 1 []),(1000001,.row 5 [pD e0]),(1000002,.obj opD0)])) _ _ _
   exact go0 trivial
  | succ i=>
   have hlt : i < cs.length:=by omega
   obtain ⟨e,he⟩ : ∃ e,cs[i]? = some e:=⟨_,List.getElem?_eq_getElem hlt⟩
   have hle:=Tr.left_succ (T:=trP) he
   have hsz : trP.size e = 1 + psz e:=rfl
   have hsz2:=psz_eq e
   have hpl:=Tr.pend_le (T:=trP) lv cs hw
   have hil : i ≤ trP.left cs i:=Tr.le_left (T:=trP) cs i (Nat.le_of_lt hlt)
   have hkl:=pszL_len e.ks
   have hSl : (trP.pend lv ++ trP.er 1000001 i).length = (trP.pend lv).length + i:=by rw [List.length_append,Tr.er_len]
   have hS : trP.pend lv ++ trP.er 1000001 (i + 1) = (trP.pend lv ++ trP.er 1000001 i) ++ [.eref 1000001 5 i 0]:=by rw [Tr.er_succ,List.append_assoc]; rfl
   have hget:=get_last (trP.pend lv ++ trP.er 1000001 i) (D.eref 1000001 5 i 0) hSl
   obtain ⟨g1,g2,g3,g5,g4⟩:=Tr.ofL_lv (T:=trP) lv 1000001 cs (3 + lv.length) (Nat.le_refl _)
   have hX : ofL (3 + lv.length) (trP.lvL 1000001 cs lv) 3000001 = .free:=g2 3000001 (by show 1000000 + (3 + lv.length) ≤ 3000001; omega)
   have hcore:=Tr.core_ok dis_P lv cs (i + 1)
   by_cases hk : e.ks = []
   ·have hck:=cp0_ok cs i e he hk (by omega)
    show dwp _ 0 _ (hold (ofL (3 + lv.length) ((5,.own 1000000 1 ((trP.pend lv).length + i + 1)) :: (2,.eref (trP.rn lv) 5 0 0) :: (1,cpD) :: (4,.ref 1000002 0) :: (1000000,.row 1 (trP.pend lv ++ trP.er 1000001 (i + 1))) :: (1000001,.row 5 (cs.map pD)) :: (1000002,.obj opD0) :: trP.lvL 1000001 cs lv))) _ _ _
    rw [hS]
    repeat' (first|with_reducible refine acc_none ?_ | (conv in hold _=>simp (disch:=omega) only [go_sem,hget,hSl,List.length_append,List.length_singleton])|refine Stp.go ?_|(with_reducible first|refine it_pos rfl ?_|refine it_neg (by decide) ?_|refine st_nil rfl ?_|refine s_op ?_ ?_|exact trivial)|((with_reducible first|refine dw_reg0 ?_|refine dw_regB ?_);(conv=>arg 3;whnf))|(refine Spl.go (fun hq he=>?_) (fun hq he=>?_)<;>first|(exfalso;clear hq;omega)|((try first|(conv=>arg 8;simp only [hq])|(conv=>arg 4;simp only [hq]));clear hq))|((with_reducible first|refine c_split (fun hq=>?_) (fun hq=>?_)|refine q_split (fun hq=>?_) (fun hq=>?_))<;>(try first|(conv=>arg 8;simp only [hq])|(conv=>arg 4;simp only [hq])))|(with_reducible refine fin_0 ?_ (by first|rfl|(conv=>lhs;simp only [go_sem,hget,hSl,List.length_append,List.length_singleton])) ?_)|exact Sub.refl _|omega)
    refine v_fn ((by kernel_rfl)) ?_
    refine UcR [1000001] trivial (hck) (go1 trivial ?_)
    obtain ⟨L,hL⟩:=LW_nms (W:=nb) (K:=nb + 1) (d:=lv.length) (.inl rfl) (.inl rfl) (by omega)
    refine dw_for (c:=3 + lv.length) (l:=fun q=>[(7,.sl 5 []),(28,I 0),(29,I q)] ++ trP.core 5 2 1 4 cpD opD0 lv cs i) 0 (fun _=>True) 0 trivial ?_ (fun q hq _=>?_) (Nat.zero_le _)
    ·refine (wk_cut 1000000 ((trP.pend lv).length + i) (by decide) rfl (by rw [List.length_append,hSl]; omega)).trans (Tr.wk_core dis_P ⟨rfl,rfl,rfl,rfl,rfl,?_,rfl,?_⟩ hL ⟨agr1_slot (by decide) rfl,agr1_slot (by decide) rfl,agr1_slot (by decide) rfl,trivial⟩)
     ·exact congrArg (D.row 1) (by rw [List.take_append_of_le_length (by rw [hSl]; exact Nat.le_refl _),List.take_of_length_le (by rw [hSl]; exact Nat.le_refl _)])
     ·refine Tr.LvOK.congr lv _ _ (fun r hr=>?_) g4
      rw [nbr]
      repeat rw [Env.set_ne _ _ _ _ (by omega)]
    ·obtain rfl : q = 0:=by omega
     show dwp _ 0 _ (hold (ofL (3 + lv.length) ((7,.sl 5 []) :: (28,I 0) :: (29,I 0) :: (5,.own 1000000 1 ((trP.pend lv).length + i)) :: (2,.eref (trP.rn lv) 5 0 0) :: (1,cpD) :: (4,.ref 1000002 0) :: (1000000,.row 1 (trP.pend lv ++ trP.er 1000001 i)) :: (1000001,.row 5 (cs.map pD)) :: (1000002,.obj opD0) :: trP.lvL 1000001 cs lv))) _ _ _
     refine go1 trivial ?_
     obtain ⟨lv',cs',p',n1,n2,n3,n4,n5,n6,n7⟩:=Tr.wk_norm dis_P lv cs i hw (Nat.le_of_lt hlt)
     refine ⟨(lv',cs',p'),⟨n1,n2,n3,n6.trans hb,?_⟩,?_,(Tr.wk_core dis_P (xs:=[]) ⟨rfl,rfl,rfl,rfl,rfl,rfl,rfl,?_⟩ hL trivial).trans n7⟩
     ·show lv'.length + trP.lefts lv' + trP.left cs' p' ≤ 800000
      omega
     ·show trP.lefts lv' + trP.left cs' p' < trP.lefts lv + trP.left cs (i + 1)
      omega
     ·refine Tr.LvOK.congr lv _ _ (fun r hr=>?_) g4
      rw [nbr]
      repeat rw [Env.set_ne _ _ _ _ (by omega)]
   ·have hkp : 0 < e.ks.length:=List.length_pos_iff.2 hk
    have hck:=cp_ok cs i e he hkp (by omega)
    have hwp : trP.Wf e.ks ((cs,i,e) :: lv):=⟨he,rfl,hw⟩
    have hpl2:=Tr.pend_le (T:=trP) ((cs,i,e) :: lv) e.ks hwp
    have hlf : trP.lefts ((cs,i,e) :: lv) = trP.lefts lv + trP.left cs i:=rfl
    have hal : trP.left e.ks e.ks.length = pszL e.ks:=(Tr.left_all (T:=trP) e.ks).trans (pszL_sum e.ks).symm
    show dwp _ 0 _ (hold (ofL (3 + lv.length) ((5,.own 1000000 1 ((trP.pend lv).length + i + 1)) :: (2,.eref (trP.rn lv) 5 0 0) :: (1,cpD) :: (4,.ref 1000002 0) :: (1000000,.row 1 (trP.pend lv ++ trP.er 1000001 (i + 1))) :: (1000001,.row 5 (cs.map pD)) :: (1000002,.obj opD0) :: trP.lvL 1000001 cs lv))) _ _ _
    rw [hS]
    repeat' (first|with_reducible refine acc_none ?_ | (conv in hold _=>simp (disch:=omega) only [go_sem,hget,hSl,List.length_append,List.length_singleton])|refine Stp.go ?_|(with_reducible first|refine it_pos rfl ?_|refine it_neg (by decide) ?_|refine st_nil rfl ?_|refine s_op ?_ ?_|exact trivial)|((with_reducible first|refine dw_reg0 ?_|refine dw_regB ?_);(conv=>arg 3;whnf))|(refine Spl.go (fun hq he=>?_) (fun hq he=>?_)<;>first|(exfalso;clear hq;omega)|((try first|(conv=>arg 8;simp only [hq])|(conv=>arg 4;simp only [hq]));clear hq))|((with_reducible first|refine c_split (fun hq=>?_) (fun hq=>?_)|refine q_split (fun hq=>?_) (fun hq=>?_))<;>(try first|(conv=>arg 8;simp only [hq])|(conv=>arg 4;simp only [hq])))|(with_reducible refine fin_0 ?_ (by first|rfl|(conv=>lhs;simp only [go_sem,hget,hSl,List.length_append,List.length_singleton])) ?_)|exact Sub.refl _|omega)
    refine v_fn ((by kernel_rfl)) ?_
    refine UcR [1000001,3000001] (cj2 @setP_ren @hX) (hck) (go1 (cj2 @setP_ren @hX) ?_)
    obtain ⟨L,hL,hLd⟩:=LP_nms (K:=3000001) (d:=lv.length) (by show 1000000 + 3 + lv.length ≤ 3000001; omega)
    refine dw_for (c:=3 + (lv.length + 1)) (l:=fun q=>[(7,.own 1000001 5 e.ks.length),(28,I e.ks.length),(29,I q)] ++ trP.core 5 2 1 4 cpD opD0 ((cs,i,e) :: lv) e.ks q) e.ks.length (fun _=>True) 0 trivial ?_ (fun q hq _=>?_) (Nat.zero_le _)
    ·refine Tr.wk_push dis_P (K:=3000001) (by show 1000000 + 4 + lv.length ≤ 3000001; omega) rfl rfl rfl rfl rfl (congrArg (D.row 1) hS.symm) ?_ rfl ?_ hL hLd ⟨agr1_slot (by decide) ?_,agr1_slot (by decide) rfl,agr1_slot (by decide) rfl,trivial⟩ (fun x hx=>?_)
     ·exact congrArg (D.row 5) ((congrArg ((cs.map pD).set i) (holeP_ren e 1000001 e.ks.length [1000001,3000001] 3000001 rfl)))
     ·refine Tr.LvOK.congr lv _ _ (fun r hr=>?_) g4
      rw [nbr]
      repeat rw [Env.set_ne _ _ _ _ (by omega)]
     ·show _ = (D.own (nb + 1) 5 _).ren L
      rw [D.ren,hL.n1]
      rfl
     ·simp only [List.mem_cons,List.not_mem_nil,or_false] at hx
      rcases hx with rfl | rfl | rfl <;> first | (show (7 : Nat) < nb; decide) | (show (28 : Nat) < nb; decide) | (show (29 : Nat) < nb; decide)
    ·obtain ⟨q1,q2,q3,q5,q4⟩:=Tr.ofL_lv (T:=trP) ((cs,i,e) :: lv) 1000001 e.ks (3 + (lv.length + 1)) (by rw [List.length_cons]; exact Nat.le_refl _)
     obtain ⟨X,hXe⟩ : ∃ X,X = trP.lvL 1000001 e.ks ((cs,i,e) :: lv):=⟨_,rfl⟩
     obtain ⟨pd,hpd⟩ : ∃ pd,pd = trP.pend ((cs,i,e) :: lv):=⟨_,rfl⟩
     obtain ⟨ro,hro⟩ : ∃ ro,ro = trP.rn ((cs,i,e) :: lv):=⟨_,rfl⟩
     have hX6 : ofL (3 + (lv.length + 1)) X 2000036 = .free:=by rw [hXe]; exact q2 2000036 (by show 1000000 + (3 + (lv.length + 1)) ≤ 2000036; omega)
     have hX7 : ofL (3 + (lv.length + 1)) X 2000037 = .free:=by rw [hXe]; exact q2 2000037 (by show 1000000 + (3 + (lv.length + 1)) ≤ 2000037; omega)
     have hlen : (pd ++ trP.er 1000001 q).length = pd.length + q:=by rw [List.length_append,Tr.er_len]
     have htk : (pd ++ trP.er 1000001 q).take (pd.length + q) = pd ++ trP.er 1000001 q:=List.take_of_length_le (by rw [hlen]; exact Nat.le_refl _)
     have hpl3 : pd.length ≤ 800000:=by rw [hpd]; omega
     show dwp _ 0 _ (hold (ofL (3 + (lv.length + 1)) ((7,.own 1000001 5 e.ks.length) :: (28,I e.ks.length) :: (29,I q) :: (5,.own 1000000 1 ((trP.pend ((cs,i,e) :: lv)).length + q)) :: (2,.eref (trP.rn ((cs,i,e) :: lv)) 5 0 0) :: (1,cpD) :: (4,.ref 1000002 0) :: (1000000,.row 1 (trP.pend ((cs,i,e) :: lv) ++ trP.er 1000001 q)) :: (1000001,.row 5 (e.ks.map pD)) :: (1000002,.obj opD0) :: trP.lvL 1000001 e.ks ((cs,i,e) :: lv)))) _ _ _
     rw [← hXe,← hpd,← hro]
     by_cases hql : q < e.ks.length
     ·refine go1 (cj4 @hX6 @hX7 @hlen @htk) ?_
      obtain ⟨L2,hL2⟩:=LW_nms (W:=2000037) (K:=nb + 1) (d:=lv.length + 1) (.inr (by show 1000000 + 3 + (lv.length + 1) ≤ 2000037; omega)) (.inl rfl) (by decide)
      refine ⟨hql,trivial,Tr.wk_core (lv:=(cs,i,e) :: lv) dis_P ⟨congrArg (fun l : List D=>D.own 2000037 1 (l.length + q + 1)) hpd,congrArg (fun g=>D.eref g 5 0 0) hro,rfl,rfl,rfl,?_,rfl,?_⟩ hL2 ⟨agr1_slot (by decide) ?_,agr1_slot (by decide) rfl,agr1_slot (by decide) rfl,trivial⟩⟩
      ·show D.row 1 (pd ++ trP.er 1000001 q ++ [D.eref 1000001 5 q 0]) = _
       rw [hpd,Tr.er_succ,List.append_assoc]
       rfl
      ·refine Tr.LvOK.congr _ _ _ (fun r hr=>?_) q4
       rw [List.length_cons] at hr
       rw [nbr,← hXe]
       repeat rw [Env.set_ne _ _ _ _ (by omega)]
      ·show _ = (D.own (nb + 1) 5 _).ren L2
       rw [D.ren,hL2.n1]
       rfl
     ·obtain rfl : q = e.ks.length:=by omega
      refine go1 trivial ?_
      obtain ⟨lv',cs',p',n1,n2,n3,n4,n5,n6,n7⟩:=Tr.wk_norm dis_P ((cs,i,e) :: lv) e.ks e.ks.length hwp (Nat.le_refl _)
      obtain ⟨L2,hL2⟩:=LW_nms (W:=nb) (K:=nb + 1) (d:=lv.length + 1) (.inl rfl) (.inl rfl) (by decide)
      rw [List.length_cons] at n5
      refine ⟨(lv',cs',p'),⟨n1,n2,n3,n6.trans hb,?_⟩,?_,(Tr.wk_core (lv:=(cs,i,e) :: lv) (xs:=[]) dis_P ⟨congrArg (fun l : List D=>D.own 1000000 1 (l.length + e.ks.length)) hpd,congrArg (fun g=>D.eref g 5 0 0) hro,rfl,rfl,rfl,?_,rfl,?_⟩ hL2 trivial).trans n7⟩
      ·show lv'.length + trP.lefts lv' + trP.left cs' p' ≤ 800000
       omega
      ·show trP.lefts lv' + trP.left cs' p' < trP.lefts lv + trP.left cs (i + 1)
       omega
      ·exact congrArg (fun l : List D=>D.row 1 (l ++ trP.er 1000001 e.ks.length)) hpd
      ·refine Tr.LvOK.congr _ _ _ (fun r hr=>?_) q4
       rw [List.length_cons] at hr
       rw [nbr,← hXe]
       repeat rw [Env.set_ne _ _ _ _ (by omega)]
theorem clonePlan_ok (p : Pl) (h : psz p ≤ 700000) : Does Tryz.prog 52 [] [pD p] (pD p) []:=by
 have h1:=cloneTreeP_ok p h
 rw [pD_eq] at h1
 rw [pD_eq]
 refine Bg c_Z91 mixed (go1 trivial ?_)
 exact Uc trivial (h1) (go0 trivial)
end Go.Proofs.YtgpdmgaemhelgaaGreat
set_option maxHeartbeats 4000000
set_option maxRecDepth 100000
namespace Go.Proofs.YtgpdmgaemhelgaaGreat
open Go.RowKit
def intL (l : List Nat) : List D:=l.map fun j : Nat=>I (j : Int)
theorem intL_app (A B : List Nat) : intL (A ++ B) = intL A ++ intL B:=List.map_append
theorem intL_len (A : List Nat) : (intL A).length = A.length:=List.length_map _
theorem intL_pur (l : List Nat) : D.purL (intL l) = true:=nats_pur l
theorem intL_ren (L : List Nat) (l : List Nat) : D.renL L (intL l) = intL l:=ren_pure.renL_pure L _ (intL_pur l)
theorem intL_get {A : List Nat} {k a : Nat} (h : A[k]? = some a) (B : List Nat) : (intL (A ++ B))[k]? = some (I a):=by
 unfold intL
 rw [List.getElem?_map,List.getElem?_append_left (List.getElem?_eq_some_iff.1 h).1,h]
 rfl
theorem intL_mid (A : List Nat) (b : Nat) (B : List Nat) : (intL (A ++ b :: B))[A.length]? = some (I b):=by
 unfold intL
 rw [List.getElem?_map,List.getElem?_append_right (Nat.le_refl _),Nat.sub_self]
 rfl
theorem intL_take (A B : List Nat) : (intL (A ++ B)).take A.length = intL A:=by unfold intL; rw [← List.map_take,List.take_left']; rfl
theorem intL_drop (A B : List Nat) : (intL (A ++ B)).drop A.length = intL B:=by unfold intL; rw [← List.map_drop,List.drop_left']; rfl
theorem intL_all (A B : List Nat) : (intL (A ++ B)).take (A.length + B.length) = intL (A ++ B):=List.take_of_length_le (by rw [intL_len,List.length_append]; exact Nat.le_refl _)
theorem intL_all1 (A : List Nat) : (intL A).take A.length = intL A:=List.take_of_length_le (by rw [intL_len]; exact Nat.le_refl _)
attribute [go_sem] intL_len intL_pur intL_ren intL_mid intL_take intL_drop intL_all intL_all1
theorem intL_put (A B : List Nat) (n : Nat) : (intL A ++ [I n]).take (A.length + 1) ++ intL B = intL (A ++ n :: B):=by
 rw [List.take_of_length_le (by rw [List.length_append,intL_len]; exact Nat.le_refl _),List.append_assoc,intL_app]
 rfl
theorem intL_put0 (A : List Nat) (n : Nat) : (intL A ++ [I n]).take (A.length + 1) = intL (A ++ [n]):=by
 rw [List.take_of_length_le (by rw [List.length_append,intL_len]; exact Nat.le_refl _),intL_app]
 rfl
theorem intL_all2 (A B : List Nat) (b : Nat) : (intL (A ++ b :: B)).take (A.length + (B.length + 1)) = intL (A ++ b :: B):=intL_all A (b :: B)
theorem intL_drop0 (A : List Nat) : (intL A).drop A.length = []:=List.drop_eq_nil_of_le (by rw [intL_len]; exact Nat.le_refl _)
theorem intL_all3 (A : List Nat) (n : Nat) : (intL (A ++ [n])).take (A.length + 1) = intL (A ++ [n]):=intL_all A [n]
theorem intL_all4 (A B : List Nat) (n b : Nat) : (intL (A ++ n :: b :: B)).take (A.length + 1 + (B.length + 1)) = intL (A ++ n :: b :: B):=by
 have:=intL_all A (n :: b :: B)
 rw [show A.length + (n :: b :: B).length = A.length + 1 + (B.length + 1) by simp only [List.length_cons]; omega] at this
 exact this
theorem addNumber_split (A B : List Nat) (n : Nat) (hA : ∀ a,a ∈ A → a < n) (hB : ∀ b,B.head? = some b → n ≤ b) (hlen : A.length + B.length < 1000) :
  Does Tryz.prog 201 [] [.sl 1 (intL (A ++ B)),I n] (.sl 1 (intL (if B.head? = some n then A ++ B else A ++ n :: B))) []:=by
 refine Bg c_Z99 mixed (go1 trivial ?_)
 refine dw_for (c:=0) (l:=fun k=>[(0,.sl 1 (intL (A ++ B))),(1,I n),(5,I k)]) A.length (fun _=>True) 0 trivial (Wk.list [] rfl rfl ?_) (fun k hk _=>?_) (Nat.zero_le _)
 ·repeat' (first|(conv in hold _=>simp (disch:=omega) only [go_sem])|exact trivial|exact Sub.refl _|omega)
  exact rfl
 ·rcases at_or_end hk with ⟨a,ha,hlt⟩ | rfl
  ·have hget:=intL_get ha B
   have han:=hA a (List.mem_of_getElem? ha)
   refine go1 @hget ?_
   refine ⟨hlt,trivial,Wk.list [] rfl rfl ?_⟩
   exact Ag trivial
  ·cases B with
   | nil=>
    rw [if_neg (by simp)]
    repeat' (first|with_reducible refine acc_none ?_ | (conv in hold _=>simp (disch:=omega) only [go_sem,intL_drop0,intL_put0,List.length_nil])|refine Stp.go ?_|(with_reducible first|refine it_pos rfl ?_|refine it_neg (by decide) ?_|refine st_nil rfl ?_|refine s_op ?_ ?_|exact trivial)|((with_reducible first|refine dw_reg0 ?_|refine dw_regB ?_);(conv=>arg 3;whnf))|(refine Spl.go (fun hq he=>?_) (fun hq he=>?_)<;>first|(exfalso;clear hq;omega)|((try first|(conv=>arg 8;simp only [hq])|(conv=>arg 4;simp only [hq]));clear hq))|((with_reducible first|refine c_split (fun hq=>?_) (fun hq=>?_)|refine q_split (fun hq=>?_) (fun hq=>?_))<;>(try first|(conv=>arg 8;simp only [hq])|(conv=>arg 4;simp only [hq])))|exact Sub.refl _|omega)
    refine fin_wk (wk_frz 4 2000047 (by decide) (by decide) rfl ?_) ?_
    rotate_left
    (conv in hold _=>simp (disch:=omega) only [go_sem,intL_drop0,intL_put0,List.length_nil,intL_all3])
    ·refine fin_L [] ?_ ?_ rfl ?_
     repeat' (first|(conv in hold _=>simp (disch:=omega) only [go_sem,intL_drop0,intL_put0,List.length_nil])|exact trivial|exact Sub.refl _|omega)
    ·exact intL_pur _
   | cons b B=>
    have hb:=hB b rfl
    rw [List.length_cons] at hlen
    by_cases e : b = n
    ·rw [if_pos (by rw [e]; rfl)]
     repeat' (first|with_reducible refine acc_none ?_ | (conv in hold _=>simp (disch:=omega) only [go_sem,intL_drop0,intL_put0,List.length_nil])|refine Stp.go ?_|(with_reducible first|refine it_pos rfl ?_|refine it_neg (by decide) ?_|refine st_nil rfl ?_|refine s_op ?_ ?_|exact trivial)|((with_reducible first|refine dw_reg0 ?_|refine dw_regB ?_);(conv=>arg 3;whnf))|(refine Spl.go (fun hq he=>?_) (fun hq he=>?_)<;>first|(exfalso;clear hq;omega)|((try first|(conv=>arg 8;simp only [hq])|(conv=>arg 4;simp only [hq]));clear hq))|((with_reducible first|refine c_split (fun hq=>?_) (fun hq=>?_)|refine q_split (fun hq=>?_) (fun hq=>?_))<;>(try first|(conv=>arg 8;simp only [hq])|(conv=>arg 4;simp only [hq])))|(with_reducible refine fin_0 ?_ (by first|rfl|(conv=>lhs;simp only [go_sem,intL_drop0,intL_put0,List.length_nil])) ?_)|exact Sub.refl _|omega)
    ·rw [if_neg (by simpa using e)]
     refine go1F (cj2 @intL_all2 @intL_put) ?_
     refine fin_wk (wk_frz 4 2000047 (by decide) (by decide) rfl ?_) ?_
     rotate_left
     (conv in hold _=>simp (disch:=omega) only [go_sem,intL_all2,intL_put,intL_all4])
     ·refine fin_L [] ?_ ?_ rfl ?_
      repeat' (first|(conv in hold _=>simp (disch:=omega) only [go_sem,intL_all2,intL_put])|exact trivial|exact Sub.refl _|omega)
      rw [if_pos (by omega)]
      exact Sub.refl _
     ·exact intL_pur _
theorem range_cut (c : Nat) (h : c < 6) : List.range 6 = List.range c ++ c :: List.range' (c + 1) (5 - c):=by
 match c,h with
 | 0,_=>rfl
 | 1,_=>rfl
 | 2,_=>rfl
 | 3,_=>rfl
 | 4,_=>rfl
 | 5,_=>rfl
theorem addNumber_ok (u : Nat → Bool) (c : Nat) (h : c < 6) : Does Tryz.prog 201 [] [.sl 1 (colsL u 6),I c] (.sl 1 (colsL (fun i=>u i || i == c) 6)) []:=by
 have hm : ∀ v : Nat → Bool,marked v 6 = (List.range c).filter v ++ (c :: List.range' (c + 1) (5 - c)).filter v:=fun v=>by unfold marked; rw [range_cut c h,List.filter_append]
 have hA : ∀ a,a ∈ (List.range c).filter u → a < c:=fun a ha=>List.mem_range.1 (List.mem_filter.1 ha).1
 have hR : ∀ a,a ∈ List.range' (c + 1) (5 - c) → c < a:=fun a ha=>by have:=List.mem_range'_1.1 ha; omega
 have hB : ∀ b,((c :: List.range' (c + 1) (5 - c)).filter u).head? = some b → c ≤ b:=fun b hb=>by
  rcases List.mem_cons.1 (List.mem_filter.1 (List.mem_of_head? hb)).1 with rfl | hb
  ·exact Nat.le_refl _
  ·exact Nat.le_of_lt (hR b hb)
 have key:=addNumber_split _ _ c hA hB (by rw [← List.length_append,← hm]; have:=marked_len u 6; omega)
 have hres : (if ((c :: List.range' (c + 1) (5 - c)).filter u).head? = some c then (List.range c).filter u ++ (c :: List.range' (c + 1) (5 - c)).filter u else (List.range c).filter u ++ c :: (c :: List.range' (c + 1) (5 - c)).filter u) = marked (fun i=>u i || i == c) 6:=by
  by_cases hu : u c = true
  ·have hu' : (fun i=>u i || i == c) = u:=funext fun i=>by
    by_cases e : i = c
    ·subst e; simp [hu]
    ·simp [e]
   rw [hu',hm u,List.filter_cons,if_pos hu,List.head?_cons,if_pos rfl]
  ·have hne : ¬ ((c :: List.range' (c + 1) (5 - c)).filter u).head? = some c:=fun hb=>by
    have:=(List.mem_filter.1 (List.mem_of_head? hb)).2
    exact hu this
   rw [if_neg hne,hm,List.filter_cons,if_neg hu,List.filter_cons,if_pos (by simp)]
   have e1 : (List.range c).filter (fun i=>u i || i == c) = (List.range c).filter u:=List.filter_congr (fun i hi=>by
    have:=List.mem_range.1 hi
    have : ¬ i = c:=by omega
    simp [this])
   have e2 : (List.range' (c + 1) (5 - c)).filter (fun i=>u i || i == c) = (List.range' (c + 1) (5 - c)).filter u:=List.filter_congr (fun i hi=>by
    have:=hR i hi
    have : ¬ i = c:=by omega
    simp [this])
   rw [e1,e2]
 rw [hres,← hm u] at key
 exact key
def also (u : Nat → Bool) (e : E) (i : Nat) : Nat → Bool:=fun j=>u j || ((e.k == 1 && e.c == (j : Int)) || occL (e.ks.take i) j)
theorem also_next {u : Nat → Bool} {e : E} {i : Nat} {x : E} (h : e.ks[i]? = some x) : (fun j=>also u e i j || occ x j) = also u e (i + 1):=funext fun j=>by
 unfold also
 rw [occL_next h,Bool.or_assoc,Bool.or_assoc]
theorem also_end (u : Nat → Bool) (e : E) : also u e e.ks.length = fun j=>u j || occ e j:=funext fun j=>by
 unfold also
 rw [List.take_length,← occ_eq]
theorem also_col {u : Nat → Bool} {e : E} (h : e.k = 1) (hc : 0 ≤ e.c) : (fun j=>u j || j == e.c.toNat) = also u e 0:=funext fun j=>by
 unfold also
 have e1 : (e.c == (j : Int)) = (j == e.c.toNat):=by
  rw [Bool.eq_iff_iff,beq_iff_eq,beq_iff_eq]
  omega
 rw [List.take_zero,occL,e1,h]
 simp
theorem also_not {u : Nat → Bool} {e : E} (h : ¬ e.k = 1) : u = also u e 0:=funext fun j=>by
 unfold also
 rw [List.take_zero,occL]
 simp [h]
theorem addColumns_ok : ∀ (e : E) (d : Nat),eOk e 6 d → ∀ u : Nat → Bool,Does Tryz.prog 186 [] [.sl 1 (colsL u 6),eD e] (.sl 1 (colsL (fun j=>u j || occ e j) 6)) []:=by
 refine E.ind (fun e ih d h u=>?_)
 have hl:=((eOk_iff e _ d).1 h).2.2.2
 have hkid:=((eOk_iff e _ d).1 h).2.2.1
 have hn2:=kidsN_le e.k
 have hlen:=((eOk_iff e _ d).1 h).1
 by_cases hk : e.k = 1
 ·have hc : 0 ≤ e.c ∧ e.c ≤ 5:=by
   unfold leafOk at hl
   rw [if_pos hk] at hl
   omega
  have hnum:=addNumber_ok u e.c.toNat (by omega)
  rw [show ((e.c.toNat : Nat) : Int) = e.c by omega,also_col hk hc.1] at hnum
  refine Bg c_Z78 mixed (go1 (cj2 @intL_all2 @intL_put) ?_)
  refine Uc (cj2 @intL_all2 @intL_put) (hnum) (go1 (cj2 @intL_all2 @intL_put) ?_)
  refine dw_for (c:=1) (l:=fun i=>[(0,.sl 1 (colsL (also u e i) 6)),(3,.ref 1000000 0),(5,I i),(1000000,.obj [I e.k,I e.c,Bo e.v.b,I e.v.n,.sl 5 (e.ks.map eD)])]) e.ks.length (fun _=>True) 0 trivial (Wk.list [2000003] rfl rfl ?_) (fun i hi _=>?_) (Nat.zero_le _)
  ·repeat' (first|(conv in hold _=>simp (disch:=omega) only [go_sem,intL_all2,intL_put])|exact trivial|exact Sub.refl _|omega)
   exact rfl
  ·rcases at_or_end hi with ⟨x,hx,hlt⟩ | rfl
   ·have hox:=ih x (List.mem_of_getElem? hx) (d - 1) (hkid x (List.mem_of_getElem? hx)) (also u e i)
    refine go1 (cj3 @intL_all2 @intL_put @hx) ?_
    refine Uc (cj2 @intL_all2 @intL_put) (hox) (go1 (cj2 @intL_all2 @intL_put) ?_)
    refine ⟨hlt,trivial,Wk.list [1000000] rfl rfl ?_⟩
    repeat' (first|(conv in hold _=>simp (disch:=omega) only [go_sem,intL_all2,intL_put])|exact trivial|exact Sub.refl _|omega)
    rw [also_next hx]
   ·refine go1 (cj2 @intL_all2 @intL_put) ?_
    rw [also_end]; exact Sub.refl _
 ·refine Bg c_Z78 mixed (go1 (cj2 @intL_all2 @intL_put) ?_)
  refine dw_for (c:=1) (l:=fun i=>[(0,.sl 1 (colsL (also u e i) 6)),(3,.ref 1000000 0),(5,I i),(1000000,.obj [I e.k,I e.c,Bo e.v.b,I e.v.n,.sl 5 (e.ks.map eD)])]) e.ks.length (fun _=>True) 0 trivial (Wk.list [2000003] rfl rfl ?_) (fun i hi _=>?_) (Nat.zero_le _)
  ·repeat' (first|(conv in hold _=>simp (disch:=omega) only [go_sem,intL_all2,intL_put])|exact trivial|exact Sub.refl _|omega)
   rw [← also_not hk]
   exact ⟨rfl,rfl⟩
  ·rcases at_or_end hi with ⟨x,hx,hlt⟩ | rfl
   ·have hox:=ih x (List.mem_of_getElem? hx) (d - 1) (hkid x (List.mem_of_getElem? hx)) (also u e i)
    refine go1 (cj3 @intL_all2 @intL_put @hx) ?_
    refine Uc (cj2 @intL_all2 @intL_put) (hox) (go1 (cj2 @intL_all2 @intL_put) ?_)
    refine ⟨hlt,trivial,Wk.list [1000000] rfl rfl ?_⟩
    repeat' (first|(conv in hold _=>simp (disch:=omega) only [go_sem,intL_all2,intL_put])|exact trivial|exact Sub.refl _|omega)
    rw [also_next hx]
   ·refine go1 (cj2 @intL_all2 @intL_put) ?_
    rw [also_end]; exact Sub.refl _
end Go.Proofs.YtgpdmgaemhelgaaGreat
