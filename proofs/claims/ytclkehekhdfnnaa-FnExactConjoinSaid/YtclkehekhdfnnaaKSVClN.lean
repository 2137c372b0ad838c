/-
  The program's copy of an expression, its kids' rows a tree under a key. No condition.
-/
import Derived.Test.YtclkehekhdfnnaaKSDca
import Derived.Test.YtclkehekhdfnnaaKSVClM
import Derived.Test.YtclkehekhdfnnaaKSVMix
set_option maxHeartbeats 4000000
set_option maxRecDepth 100000
set_option linter.unusedVariables false
set_option linter.unusedSimpArgs false
namespace Go.Proofs.Ytclkehekhdfnnaa
open Go.RowKit
theorem setR_ren {R : List D} (hp : D.purL R = true) (L : List Nat) (i : Nat) (d : D) : D.renL L (R.set i d) = R.set i (d.ren L):=by
 rw [D.renL_map,List.map_set,← D.renL_map,ren_pure.renL_pure _ _ hp]
theorem ckR_ok (R : List D) (i : Nat) (e : E) (hp : D.purL R = true) (hR : R[i]? = some (eD e)) (h0 : 0 < e.ks.length) (hl : e.ks.length < 1000000) : Does Try.prog 53 [.row 5 R] [.eref 1000000 5 i 0] (.own 1000001 5 e.ks.length) [.row 5 (R.set i (holeE e 1000001 e.ks.length)),.row 5 (e.ks.map eD)]:=by
 have hc:=cloneKids_ok e.ks h0 hl
 have hlt:=(List.getElem?_eq_some_iff.1 hR).1
 have hset : ∀ x : D,(R.set i x)[i]? = some x:=fun x=>List.getElem?_set_self hlt
 have hren:=setR_ren hp
 refine does c_Z5 mixed (Nat.le_of_ble_eq_true rfl) 1 rfl ?_
 conv=>arg 3; whnf
 repeat' (first|with_reducible refine acc_none ?_ | (conv in hold _=>simp (disch:=omega) only [go_sem,hR,List.length_map])|refine Stp.go ?_|(with_reducible first|refine it_pos rfl ?_|refine it_neg (by decide) ?_|refine st_nil rfl ?_|refine s_op ?_ ?_|exact trivial)|((with_reducible first|refine dw_reg0 ?_|refine dw_regB ?_);(conv=>arg 3;whnf))|(refine Spl.go (fun hq he=>?_) (fun hq he=>?_)<;>first|(exfalso;clear hq;omega)|((try first|(conv=>arg 8;simp only [hq])|(conv=>arg 4;simp only [hq]));clear hq))|((with_reducible first|refine c_split (fun hq=>?_) (fun hq=>?_)|refine q_split (fun hq=>?_) (fun hq=>?_))<;>(try first|(conv=>arg 8;simp only [hq])|(conv=>arg 4;simp only [hq])))|(with_reducible refine fin_0 ?_ (by first|rfl|(conv=>lhs;simp only [go_sem,hR,List.length_map])) ?_)|exact Sub.refl _|omega)
 refine c_doesR [3000001] (hc) (callOK_of rfl (Nat.le_of_ble_eq_true rfl) rfl ?_ ?_) ?_ ?_
 ·repeat' (first|(conv in hold _=>simp (disch:=omega) only [go_sem,hR,List.length_map,hset,List.length_set])|exact trivial|exact Sub.refl _|omega)
 ·repeat' (first|(conv in hold _=>simp (disch:=omega) only [go_sem,hR,List.length_map,hset,List.length_set])|exact trivial|exact Sub.refl _|omega)
 ·((conv=>rhs;simp (disch:=omega) only [go_sem,hR,List.length_map,hset,List.length_set]); try rfl)
 repeat' (first|with_reducible refine acc_none ?_ | (conv in hold _=>simp (disch:=omega) only [go_sem,hR,List.length_map,hset,List.length_set])|refine Stp.go ?_|(with_reducible first|refine it_pos rfl ?_|refine it_neg (by decide) ?_|refine st_nil rfl ?_|refine s_op ?_ ?_|exact trivial)|((with_reducible first|refine dw_reg0 ?_|refine dw_regB ?_);(conv=>arg 3;whnf))|(refine Spl.go (fun hq he=>?_) (fun hq he=>?_)<;>first|(exfalso;clear hq;omega)|((try first|(conv=>arg 8;simp only [hq])|(conv=>arg 4;simp only [hq]));clear hq))|((with_reducible first|refine c_split (fun hq=>?_) (fun hq=>?_)|refine q_split (fun hq=>?_) (fun hq=>?_))<;>(try first|(conv=>arg 8;simp only [hq])|(conv=>arg 4;simp only [hq])))|(with_reducible refine fin_0 ?_ (by first|rfl|(conv=>lhs;simp only [go_sem,hR,List.length_map,hset,List.length_set])) ?_)|exact Sub.refl _|omega)
 refine fin_L [1000000,3000001] ?_ ?_ rfl ?_
 repeat' (first|(conv in hold _=>simp (disch:=omega) only [go_sem,hren,holeE])|exact trivial|exact Sub.refl _|omega)
theorem ckR0_ok (R : List D) (i : Nat) (e : E) (hp : D.purL R = true) (hR : R[i]? = some (eD e)) (h0 : e.ks = []) : Does Try.prog 53 [.row 5 R] [.eref 1000000 5 i 0] (.sl 5 []) [.row 5 (R.set i (eD e))]:=by
 have hc:=cloneNone_ok
 have hlt:=(List.getElem?_eq_some_iff.1 hR).1
 have hset : ∀ x : D,(R.set i x)[i]? = some x:=fun x=>List.getElem?_set_self hlt
 have hes : R.set i (.agg [I e.k,I e.c,Bo e.v.b,I e.v.n,.sl 5 []]) = R.set i (eD e):=by rw [eD_eq,h0]; rfl
 have hren : ∀ L,D.renL L (R.set i (.agg [I e.k,I e.c,Bo e.v.b,I e.v.n,.sl 5 (e.ks.map eD)])) = R.set i (.agg [I e.k,I e.c,Bo e.v.b,I e.v.n,.sl 5 (e.ks.map eD)]):=fun L=>by
  have h:=setR_ren hp L i (eD e)
  rw [ren_pure L (eD e) (trE.pur e),eD_eq] at h
  exact h
 refine does c_Z5 mixed (Nat.le_of_ble_eq_true rfl) 1 rfl ?_
 conv=>arg 3; whnf
 repeat' (first|with_reducible refine acc_none ?_ | (conv in hold _=>simp (disch:=omega) only [go_sem,hR,List.length_map,h0,List.map_nil])|refine Stp.go ?_|(with_reducible first|refine it_pos rfl ?_|refine it_neg (by decide) ?_|refine st_nil rfl ?_|refine s_op ?_ ?_|exact trivial)|((with_reducible first|refine dw_reg0 ?_|refine dw_regB ?_);(conv=>arg 3;whnf))|(refine Spl.go (fun hq he=>?_) (fun hq he=>?_)<;>first|(exfalso;clear hq;omega)|((try first|(conv=>arg 8;simp only [hq])|(conv=>arg 4;simp only [hq]));clear hq))|((with_reducible first|refine c_split (fun hq=>?_) (fun hq=>?_)|refine q_split (fun hq=>?_) (fun hq=>?_))<;>(try first|(conv=>arg 8;simp only [hq])|(conv=>arg 4;simp only [hq])))|(with_reducible refine fin_0 ?_ (by first|rfl|(conv=>lhs;simp only [go_sem,hR,List.length_map,h0,List.map_nil])) ?_)|exact Sub.refl _|omega)
 refine c_doesE (hc) ?_ ?_ ?_
 ·((try (conv=>rhs;simp (disch:=omega) only [go_sem,hR,List.length_map,hset,List.length_set])); try rfl)
 ·first|rfl|(conv=>lhs;simp only [go_sem,hR,List.length_map,hset,List.length_set])
 repeat' (first|with_reducible refine acc_none ?_ | (conv in hold _=>simp (disch:=omega) only [go_sem,hR,List.length_map,hset,List.length_set])|refine Stp.go ?_|(with_reducible first|refine it_pos rfl ?_|refine it_neg (by decide) ?_|refine st_nil rfl ?_|refine s_op ?_ ?_|exact trivial)|((with_reducible first|refine dw_reg0 ?_|refine dw_regB ?_);(conv=>arg 3;whnf))|(refine Spl.go (fun hq he=>?_) (fun hq he=>?_)<;>first|(exfalso;clear hq;omega)|((try first|(conv=>arg 8;simp only [hq])|(conv=>arg 4;simp only [hq]));clear hq))|((with_reducible first|refine c_split (fun hq=>?_) (fun hq=>?_)|refine q_split (fun hq=>?_) (fun hq=>?_))<;>(try first|(conv=>arg 8;simp only [hq])|(conv=>arg 4;simp only [hq])))|(with_reducible refine fin_0 ?_ (by first|rfl|(conv=>lhs;simp only [go_sem,hR,List.length_map,hset,List.length_set])) ?_)|exact Sub.refl _|omega)
 refine fin_L [1000000] ?_ ?_ rfl ?_
 repeat' (first|(conv in hold _=>simp (disch:=omega) only [go_sem,hes,hren])|exact trivial|exact Sub.refl _|omega)
section
variable {e0 : E} {m0 : Names}
theorem wk_nextK {t : Nat} {lv : trE.Lv} {cs : List E} {p q : Nat} (htop : (cleF e0).top (t + 2) = (cleF e0).top (t + 1)) (hp : ∀ w m B,OwnL ((cleF e0).its (t + 1)) w m B → OwnL ((cleF e0).its (t + 2)) w m B) : Wk 0 (ofL (3 + lv.length) (coreK e0 m0 (t + 1) lv cs p q)) (ofL (3 + lv.length) (coreK e0 m0 (t + 2) lv cs p q)):=by
 have hc:=coreK_ok (e0:=e0) (m0:=m0) (t + 1) lv cs p q
 obtain ⟨L,hL⟩:=LW_nms (W:=nb) (K:=nb + 1) (d:=lv.length) (.inl rfl) (.inl rfl) (by omega)
 refine (wk_ghoK (k':=t + 2) hc.g htop hp).trans ?_
 have hn : nb = 1000000:=rfl
 have hg : gh = 999999:=rfl
 have hE : ∀ (τ : Env) (v : D),Env.put [(gh,v)] τ = τ.set gh v:=fun _ _=>rfl
 rw [hE]
 refine wk_coreK (xs:=[]) ⟨Env.set_same _ _ _,?_,?_,?_,?_,?_,?_,?_,?_⟩ hL trivial
 ·rw [Env.set_ne _ _ _ _ (by omega)]; exact hc.w
 ·rw [Env.set_ne _ _ _ _ (by omega)]; exact hc.r
 ·rw [Env.set_ne _ _ _ _ (by omega)]; exact hc.f
 ·rw [Env.set_ne _ _ _ _ (by omega)]; exact hc.z
 ·rw [Env.set_ne _ _ _ _ (by omega)]; exact hc.ob
 ·rw [Env.set_ne _ _ _ _ (by omega)]; exact hc.st
 ·rw [Env.set_ne _ _ _ _ (by omega)]; exact hc.top
 ·exact LvK.congr lv _ _ (fun r hr=>Env.set_ne _ _ _ _ (by omega)) hc.lvs
def clK (e0 : E) (x : Nat × trE.Lv × List E × Nat) : Prop:=stK e0 x.1 = x.2 ∧ WfK x.2.2.1 x.2.1 ∧ (0 < x.2.2.2 ∨ x.2.1 = []) ∧ x.2.2.2 ≤ x.2.2.1.length ∧ Tr.bot (T:=trE) x.2.2.1 x.2.1 = [e0] ∧ bsK x.2.1 + nRL (List.drop x.2.2.2 x.2.2.1) + x.2.1.length + trE.lefts x.2.1 + trE.left x.2.2.1 x.2.2.2 ≤ 800000
end
theorem cloneTree_rc (e0 : E) (hs : esz e0 ≤ 800000) : RCalls Try.prog 52 [] [eD e0,ckD] [⟨0,5,e0.ks.map eD⟩] 1 (eK 0 e0):=by
 have hn1 : nb = 1000000:=rfl
 refine rcalls_ofO c_Z1 mixed (cleF e0) 1 0 (fun κ=>if κ = 0 then 0 + nRL [e0] - 1 else 2000000) (Nat.le_of_ble_eq_true rfl) (eK_low _ _) rfl (List.Perm.refl _) (fun w m B h=>h) (fun it hit _=>?_) (fun κ h=>absurd h (Nat.not_lt_zero κ)) (fun κ hκ=>?_) (Nat.zero_le _) (by omega) (fun m0=>?_)
 ·obtain rfl:=List.mem_singleton.1 hit
  exact Nat.zero_lt_one
 ·show nb ≤ if κ = 0 then _ else 2000000
  rw [if_neg (by omega)]; decide
 rw [eK_rk,if_pos rfl,Nat.zero_add]
 unfold eK
 conv=>arg 3; whnf
 repeat' (first|with_reducible refine acc_none ?_ | (conv in hold _=>simp (disch:=omega) only [go_sem])|refine Stp.go ?_|(with_reducible first|refine it_pos rfl ?_|refine it_neg (by decide) ?_|refine st_nil rfl ?_|refine s_op ?_ ?_|exact trivial)|((with_reducible first|refine dw_reg0 ?_|refine dw_regB ?_);(conv=>arg 3;whnf))|(refine Spl.go (fun hq he=>?_) (fun hq he=>?_)<;>first|(exfalso;clear hq;omega)|((try first|(conv=>arg 8;simp only [hq])|(conv=>arg 4;simp only [hq]));clear hq))|((with_reducible first|refine c_split (fun hq=>?_) (fun hq=>?_)|refine q_split (fun hq=>?_) (fun hq=>?_))<;>(try first|(conv=>arg 8;simp only [hq])|(conv=>arg 4;simp only [hq])))|(with_reducible refine fin_0 ?_ (by first|rfl|(conv=>lhs;simp only [go_sem])) ?_)|exact Sub.refl _|omega)
 refine dw_loopE (fun x : Nat × trE.Lv × List E × Nat=>3 + x.2.1.length) (fun x=>coreK e0 m0 (x.1 + 1) x.2.1 x.2.2.1 x.2.2.2 x.2.2.2) (clK e0) (fun x=>trE.lefts x.2.1 + trE.left x.2.2.1 x.2.2.2) (0,[],[e0],1) ?_ ?_ (fun x hJ=>?_)
 ·have h1 : trE.left [e0] 1 = esz e0:=by show esz e0 + 0 = esz e0; omega
  refine ⟨rfl,trivial,.inl Nat.zero_lt_one,Nat.le_refl _,rfl,?_⟩
  show 0 + 0 + 0 + 0 + trE.left [e0] 1 ≤ 800000
  omega
 ·refine (wk_objRow 2000002 (s:=5) (by decide) rfl (by decide) rfl).trans ((wk_refe 2 5 (by decide) rfl).trans ((wk_rowe 2000009 5 (by decide) rfl).trans (Wk.listK [2000009,2000002,2000004] rfl rfl ?_)))
  show hold (agrK _ _ [(gh,.gho 0 [.fam (famOf (cleF e0) 0 m0)] 0 1),(5,.own 1000000 1 1),(2,.eref 1000001 5 0 0),(1,ckD),(4,.ref 1000002 0),(1000000,.row 1 [.eref 1000001 5 0 0]),(1000001,.row 5 [eD e0]),(1000002,.obj ozD)])
  repeat' (first|(conv in hold _=>simp (disch:=omega) only [go_sem])|exact trivial|exact Sub.refl _|omega)
 ·obtain ⟨t,lv,cs,p⟩:=x
  obtain ⟨hst,hw,hp0,hp1,hb,hN⟩:=hJ
  have hst : stK e0 t = (lv,cs,p):=hst
  have hw : WfK cs lv:=hw
  have hp0 : 0 < p ∨ lv = []:=hp0
  have hp1 : p ≤ cs.length:=hp1
  have hb : Tr.bot (T:=trE) cs lv = [e0]:=hb
  have hN : bsK lv + nRL (cs.drop p) + lv.length + trE.lefts lv + trE.left cs p ≤ 800000:=hN
  obtain ⟨hct,hci⟩:=cleF_at hst
  cases p with
  | zero=>
   obtain rfl : lv = []:=hp0.resolve_left (Nat.lt_irrefl 0)
   obtain rfl : cs = [e0]:=hb
   show dwp _ 0 _ (hold (ofL 3 [(gh,.gho 0 [.fam (famOf (cleF e0) 0 m0)] 0 (t + 1)),(5,.own 1000000 1 0),(2,.eref 1000001 5 0 0),(1,ckD),(4,.ref 1000002 0),(1000000,.row 1 []),(1000001,.row 5 [.agg [I e0.k,I e0.c,Bo e0.v.b,I e0.v.n,kD (0 + nRL [e0] - 1) 5 (e0.ks.map eD)]]),(1000002,.obj ozD)])) _ _ _
   repeat' (first|with_reducible refine acc_none ?_ | (conv in hold _=>simp (disch:=omega) only [go_sem])|refine Stp.go ?_|(with_reducible first|refine it_pos rfl ?_|refine it_neg (by decide) ?_|refine st_nil rfl ?_|refine s_op ?_ ?_|exact trivial)|((with_reducible first|refine dw_reg0 ?_|refine dw_regB ?_);(conv=>arg 3;whnf))|(refine Spl.go (fun hq he=>?_) (fun hq he=>?_)<;>first|(exfalso;clear hq;omega)|((try first|(conv=>arg 8;simp only [hq])|(conv=>arg 4;simp only [hq]));clear hq))|((with_reducible first|refine c_split (fun hq=>?_) (fun hq=>?_)|refine q_split (fun hq=>?_) (fun hq=>?_))<;>(try first|(conv=>arg 8;simp only [hq])|(conv=>arg 4;simp only [hq])))|(with_reducible refine fin_0 ?_ (by first|rfl|(conv=>lhs;simp only [go_sem])) ?_)|exact Sub.refl _|omega)
   have e1 : (cleF e0).its (t + 1) = (cleF e0).its 0:=hci.trans (List.append_nil _)
   have e2 : (cleF e0).top 0 = (cleF e0).top (t + 1):=(Nat.zero_add _).symm.trans hct.symm
   refine fin_RCw (τ:=?tt) ?h1 ?h2
   case h1=>
    refine wk_ghoK (kk:=0) (fm:=cleF e0) (p:=0) (m0:=m0) (k:=t + 1) (k':=0) ?_ e2 (fun w m B h=>e1 ▸ h)
    exact (by ((conv=>lhs; simp (disch:=omega) only [go_sem]); try rfl))
   refine fin_RC (by ((conv=>lhs; simp (disch:=omega) only [go_sem]); try rfl)) ?_ (by ((conv=>lhs; simp (disch:=omega) only [go_sem]); try rfl))
   repeat' (first|(conv in hold _=>simp (disch:=omega) only [go_sem])|exact trivial|exact Sub.refl _|omega)
  | succ i=>
   have hlt : i < cs.length:=by omega
   obtain ⟨e,he⟩ : ∃ e,cs[i]? = some e:=⟨_,List.getElem?_eq_getElem hlt⟩
   have hle:=Tr.left_succ (T:=trE) he
   have hsz : trE.size e = 1 + eszL e.ks:=by show esz e = _; exact esz_eq e
   have hpl:=Tr.pend_le (T:=trE) lv cs hw.wf
   have hil : i ≤ trE.left cs i:=Tr.le_left (T:=trE) cs i (Nat.le_of_lt hlt)
   have hkl:=eszL_len e.ks
   have hde:=nRL_drop he
   have hdr : nRL (cs.drop i) = nR e + nRL (cs.drop (i + 1)):=(congrArg nRL (nRL_drop he)).trans rfl
   have hSl : (trE.pend lv ++ trE.er 1000001 i).length = (trE.pend lv).length + i:=by rw [List.length_append,Tr.er_len]
   have hS : trE.pend lv ++ trE.er 1000001 (i + 1) = (trE.pend lv ++ trE.er 1000001 i) ++ [.eref 1000001 5 i 0]:=by rw [Tr.er_succ,List.append_assoc]; rfl
   have hget:=get_last (trE.pend lv ++ trE.er 1000001 i) (D.eref 1000001 5 i 0) hSl
   obtain ⟨g1,g2,g4⟩:=ofL_lvK lv 1000001 cs (3 + lv.length) (Nat.le_refl _)
   have hX : ofL (3 + lv.length) (lvK 1000001 cs lv) 3000001 = .free:=g2 3000001 (by show 1000000 + (3 + lv.length) ≤ 3000001; omega)
   obtain ⟨RW,hRW⟩ : ∃ RW,RW = rwK (bsK lv) (i + 1) cs:=⟨_,rfl⟩
   have hRi : RW[i]? = some (eD e):=by rw [hRW]; exact rwK_at he
   have hRc : ∀ d,d ∈ RW → d.cells.length = 5:=by rw [hRW]; exact rwK_cells _ _ _
   by_cases hk : e.ks = []
   ·have hst2 : stK e0 (t + 1) = (lv,cs,i):=by rw [stK,hst]; show (match cs[i]? with | some e=>if e.ks = [] then (lv,cs,i) else ((cs,i,e) :: lv,e.ks,e.ks.length) | none=>([],[],0)) = _; rw [he]; exact if_pos hk
    obtain ⟨hct2,hci2⟩:=cleF_at hst2
    have hrl:=rwK_leaf (b:=bsK lv) he hk
    have hnk : nk e = 0:=by unfold nk; rw [if_pos hk]
    have hnR : nR e = 0:=by rw [nR_eq,hnk,hk]; rfl
    show dwp _ 0 _ (hold (ofL (3 + lv.length) ((gh,.gho 0 [.fam (famOf (cleF e0) 0 m0)] 0 (t + 1)) :: (5,.own 1000000 1 ((trE.pend lv).length + i + 1)) :: (2,.eref (trE.rn lv) 5 0 0) :: (1,ckD) :: (4,.ref 1000002 0) :: (1000000,.row 1 (trE.pend lv ++ trE.er 1000001 (i + 1))) :: (1000001,.row 5 (rwK (bsK lv) (i + 1) cs)) :: (1000002,.obj ozD) :: lvK 1000001 cs lv))) _ _ _
    rw [hS,← hRW]
    repeat' ((fail_if_success (with_reducible first | refine s_call ?_ | refine s_cal ?_ | refine s_inv ?_)); first | with_reducible refine acc_none ?_ | (conv in hold _=>simp (disch:=omega) only [go_sem,hget,hSl,List.length_append,List.length_singleton])|refine Stp.go ?_|(with_reducible first|refine it_pos rfl ?_|refine it_neg (by decide) ?_|refine st_nil rfl ?_|refine s_op ?_ ?_|exact trivial)|((with_reducible first|refine dw_reg0 ?_|refine dw_regB ?_);(conv=>arg 3;whnf))|(refine Spl.go (fun hq he=>?_) (fun hq he=>?_)<;>first|(exfalso;clear hq;omega)|((try first|(conv=>arg 8;simp only [hq])|(conv=>arg 4;simp only [hq]));clear hq))|((with_reducible first|refine c_split (fun hq=>?_) (fun hq=>?_)|refine q_split (fun hq=>?_) (fun hq=>?_))<;>(try first|(conv=>arg 8;simp only [hq])|(conv=>arg 4;simp only [hq])))|(with_reducible refine fin_0 ?_ (by first|rfl|(conv=>lhs;simp only [go_sem,hget,hSl,List.length_append,List.length_singleton])) ?_)|exact Sub.refl _|omega)
    refine s_calK0 (g:=1000001) (i:=i) (K:=RW) (e:=eD e) (hole:=eD e) (r:=.sl 5 []) (ds:=[.eref 1000000 5 i 0]) (f:=53) (by ((conv=>lhs; simp (disch:=omega) only [go_sem]); try rfl)) (by kernel_rfl) (by ((conv=>lhs; simp (disch:=omega) only [go_sem]); try rfl)) (by decide) (by decide) hRi hRc (trE.pur e) (hRc _ (List.mem_of_getElem? hRi)) (fun R _ hRp _ hRi=>ckR0_ok R i e hRp hRi hk) (by ((conv=>lhs; simp (disch:=omega) only [go_sem]); try rfl)) ?_
    repeat' (first|with_reducible refine acc_none ?_ | (conv in hold _=>simp (disch:=omega) only [go_sem])|refine Stp.go ?_|(with_reducible first|refine it_pos rfl ?_|refine it_neg (by decide) ?_|refine st_nil rfl ?_|refine s_op ?_ ?_|exact trivial)|((with_reducible first|refine dw_reg0 ?_|refine dw_regB ?_);(conv=>arg 3;whnf))|(refine Spl.go (fun hq he=>?_) (fun hq he=>?_)<;>first|(exfalso;clear hq;omega)|((try first|(conv=>arg 8;simp only [hq])|(conv=>arg 4;simp only [hq]));clear hq))|((with_reducible first|refine c_split (fun hq=>?_) (fun hq=>?_)|refine q_split (fun hq=>?_) (fun hq=>?_))<;>(try first|(conv=>arg 8;simp only [hq])|(conv=>arg 4;simp only [hq])))|(with_reducible refine fin_0 ?_ (by first|rfl|(conv=>lhs;simp only [go_sem])) ?_)|exact Sub.refl _|omega)
    obtain ⟨L,hL⟩:=LW_nms (W:=nb) (K:=nb + 1) (d:=lv.length) (.inl rfl) (.inl rfl) (by omega)
    have hgx : LvK (ofL (3 + lv.length) (lvK 1000001 cs lv)) 1000001 cs lv:=g4
    refine dw_for (c:=3 + lv.length) (l:=fun q=>[(7,.sl 5 []),(28,I 0),(29,I q)] ++ coreK e0 m0 (t + 1) lv cs i i) 0 (fun _=>True) 0 trivial ?_ (fun q hq _=>?_) (Nat.zero_le _)
    ·refine (wk_cut 1000000 ((trE.pend lv).length + i) (by decide) rfl (by rw [List.length_append,hSl]; omega)).trans ?_
     refine wk_coreK ?_ hL ?_
     refine ⟨rfl,rfl,rfl,rfl,rfl,rfl,?_,?_,?_⟩
     rotate_left 3
     ·exact ⟨agrK1_slot (by decide) rfl,agrK1_slot (by decide) rfl,agrK1_slot (by decide) rfl,trivial⟩
     ·exact congrArg (D.row 1) (by rw [List.take_append_of_le_length (by rw [hSl]; exact Nat.le_refl _),List.take_of_length_le (by rw [hSl]; exact Nat.le_refl _)])
     ·refine congrArg (D.row 5) ?_
      rw [hRW]
      rw [eD_eq] at hrl
      exact hrl
     ·refine LvK.congr lv _ _ (fun r hr=>?_) g4
      rw [nbr]
      repeat rw [Env.set_ne _ _ _ _ (by omega)]
    ·obtain rfl : q = 0:=by omega
     show dwp _ 0 _ (hold (ofL (3 + lv.length) ((7,.sl 5 []) :: (28,I 0) :: (29,I 0) :: (gh,.gho 0 [.fam (famOf (cleF e0) 0 m0)] 0 (t + 1)) :: (5,.own 1000000 1 ((trE.pend lv).length + i)) :: (2,.eref (trE.rn lv) 5 0 0) :: (1,ckD) :: (4,.ref 1000002 0) :: (1000000,.row 1 (trE.pend lv ++ trE.er 1000001 i)) :: (1000001,.row 5 (rwK (bsK lv) i cs)) :: (1000002,.obj ozD) :: lvK 1000001 cs lv))) _ _ _
     repeat' (first|with_reducible refine acc_none ?_ | (conv in hold _=>simp (disch:=omega) only [go_sem])|refine Stp.go ?_|(with_reducible first|refine it_pos rfl ?_|refine it_neg (by decide) ?_|refine st_nil rfl ?_|refine s_op ?_ ?_|exact trivial)|((with_reducible first|refine dw_reg0 ?_|refine dw_regB ?_);(conv=>arg 3;whnf))|(refine Spl.go (fun hq he=>?_) (fun hq he=>?_)<;>first|(exfalso;clear hq;omega)|((try first|(conv=>arg 8;simp only [hq])|(conv=>arg 4;simp only [hq]));clear hq))|((with_reducible first|refine c_split (fun hq=>?_) (fun hq=>?_)|refine q_split (fun hq=>?_) (fun hq=>?_))<;>(try first|(conv=>arg 8;simp only [hq])|(conv=>arg 4;simp only [hq])))|(with_reducible refine fin_0 ?_ (by first|rfl|(conv=>lhs;simp only [go_sem])) ?_)|exact Sub.refl _|omega)
     obtain ⟨lv',cs',p',t',n1,n2,n3,n4,n5,n6,n8,n9,n7⟩:=wk_normK (e0:=e0) (m0:=m0) lv cs i (t + 1) hw (Nat.le_of_lt hlt) hst2 (by rw [hdr,hnR]; omega)
     refine ⟨(t',lv',cs',p'),⟨n8,n1,n2,n3,n6.trans hb,?_⟩,?_,Wk.trans ?_ (Wk.trans (wk_nextK (e0:=e0) (m0:=m0) (t:=t) (lv:=lv) (cs:=cs) (p:=i) (q:=i) ?_ ?_) n7)⟩
     ·show bsK lv' + nRL (List.drop p' cs') + lv'.length + trE.lefts lv' + trE.left cs' p' ≤ 800000
      omega
     ·show trE.lefts lv' + trE.left cs' p' < trE.lefts lv + trE.left cs (i + 1)
      omega
     ·refine wk_coreK (xs:=[]) ?_ hL trivial
      refine ⟨rfl,rfl,rfl,rfl,rfl,rfl,rfl,rfl,?_⟩
      refine LvK.congr lv _ _ (fun r hr=>?_) g4
      rw [nbr]
      repeat rw [Env.set_ne _ _ _ _ (by omega)]
     ·rw [hct,hct2,hdr,hnR,Nat.zero_add]
     ·intro w m B h
      rw [hci] at h
      rw [hci2,hde]
      show OwnL (⟨_,5,e.ks.map eD⟩ :: (itQ (bsK lv) (cs.drop (i + 1)) ++ itsLv lv)) w m B
      rw [hk]
      exact OwnL.nilC h
   ·have hkp : 0 < e.ks.length:=List.length_pos_iff.2 hk
    have hst2 : stK e0 (t + 1) = ((cs,i,e) :: lv,e.ks,e.ks.length):=by rw [stK,hst]; show (match cs[i]? with | some e=>if e.ks = [] then (lv,cs,i) else ((cs,i,e) :: lv,e.ks,e.ks.length) | none=>([],[],0)) = _; rw [he]; exact if_neg hk
    obtain ⟨hct2,hci2⟩:=cleF_at hst2
    have hwp : WfK e.ks ((cs,i,e) :: lv):=⟨⟨he,rfl,hk⟩,hw⟩
    have hpl2:=Tr.pend_le (T:=trE) ((cs,i,e) :: lv) e.ks hwp.wf
    have hlf : trE.lefts ((cs,i,e) :: lv) = trE.lefts lv + trE.left cs i:=rfl
    have hal : trE.left e.ks e.ks.length = eszL e.ks:=(Tr.left_all (T:=trE) e.ks).trans (eszL_sum e.ks).symm
    have hdn : nRL (e.ks.drop e.ks.length) = 0:=by rw [List.drop_length]; rfl
    have hbk : bsK ((cs,i,e) :: lv) = bsK lv + nRL (cs.drop (i + 1)):=rfl
    show dwp _ 0 _ (hold (ofL (3 + lv.length) ((gh,.gho 0 [.fam (famOf (cleF e0) 0 m0)] 0 (t + 1)) :: (5,.own 1000000 1 ((trE.pend lv).length + i + 1)) :: (2,.eref (trE.rn lv) 5 0 0) :: (1,ckD) :: (4,.ref 1000002 0) :: (1000000,.row 1 (trE.pend lv ++ trE.er 1000001 (i + 1))) :: (1000001,.row 5 (rwK (bsK lv) (i + 1) cs)) :: (1000002,.obj ozD) :: lvK 1000001 cs lv))) _ _ _
    rw [hS,← hRW]
    repeat' ((fail_if_success (with_reducible first | refine s_call ?_ | refine s_cal ?_ | refine s_inv ?_)); first | with_reducible refine acc_none ?_ | (conv in hold _=>simp (disch:=omega) only [go_sem,hget,hSl,List.length_append,List.length_singleton])|refine Stp.go ?_|(with_reducible first|refine it_pos rfl ?_|refine it_neg (by decide) ?_|refine st_nil rfl ?_|refine s_op ?_ ?_|exact trivial)|((with_reducible first|refine dw_reg0 ?_|refine dw_regB ?_);(conv=>arg 3;whnf))|(refine Spl.go (fun hq he=>?_) (fun hq he=>?_)<;>first|(exfalso;clear hq;omega)|((try first|(conv=>arg 8;simp only [hq])|(conv=>arg 4;simp only [hq]));clear hq))|((with_reducible first|refine c_split (fun hq=>?_) (fun hq=>?_)|refine q_split (fun hq=>?_) (fun hq=>?_))<;>(try first|(conv=>arg 8;simp only [hq])|(conv=>arg 4;simp only [hq])))|(with_reducible refine fin_0 ?_ (by first|rfl|(conv=>lhs;simp only [go_sem,hget,hSl,List.length_append,List.length_singleton])) ?_)|exact Sub.refl _|omega)
    refine s_calK (g:=1000001) (g2:=3000001) (i:=i) (K:=RW) (e:=eD e) (hole:=holeE e 1000001 e.ks.length) (nw:=.row 5 (e.ks.map eD)) (r:=.own 1000001 5 e.ks.length) (ds:=[.eref 1000000 5 i 0]) (f:=53) (by ((conv=>lhs; simp (disch:=omega) only [go_sem]); try rfl)) (by kernel_rfl) (by ((conv=>lhs; simp (disch:=omega) only [go_sem]); try rfl)) (by decide) (by ((conv=>lhs; simp (disch:=omega) only [go_sem,hX]); try rfl)) (by decide) (by decide) (by decide) hRi hRc (trE.pur e) rfl rfl (fun R _ hRp _ hRi=>ckR_ok R i e hRp hRi hkp (by omega)) (by ((conv=>lhs; simp (disch:=omega) only [go_sem]); try rfl)) ?_
    repeat' (first|with_reducible refine acc_none ?_ | (conv in hold _=>simp (disch:=omega) only [go_sem])|refine Stp.go ?_|(with_reducible first|refine it_pos rfl ?_|refine it_neg (by decide) ?_|refine st_nil rfl ?_|refine s_op ?_ ?_|exact trivial)|((with_reducible first|refine dw_reg0 ?_|refine dw_regB ?_);(conv=>arg 3;whnf))|(refine Spl.go (fun hq he=>?_) (fun hq he=>?_)<;>first|(exfalso;clear hq;omega)|((try first|(conv=>arg 8;simp only [hq])|(conv=>arg 4;simp only [hq]));clear hq))|((with_reducible first|refine c_split (fun hq=>?_) (fun hq=>?_)|refine q_split (fun hq=>?_) (fun hq=>?_))<;>(try first|(conv=>arg 8;simp only [hq])|(conv=>arg 4;simp only [hq])))|(with_reducible refine fin_0 ?_ (by first|rfl|(conv=>lhs;simp only [go_sem])) ?_)|exact Sub.refl _|omega)
    obtain ⟨L,hL,hLd⟩:=LP_nms (K:=3000001) (d:=lv.length) (by show 1000000 + 3 + lv.length ≤ 3000001; omega)
    refine dw_for (c:=3 + (lv.length + 1)) (l:=fun q=>[(7,.own 1000001 5 e.ks.length),(28,I e.ks.length),(29,I q)] ++ coreK e0 m0 (t + 1) ((cs,i,e) :: lv) e.ks e.ks.length q) e.ks.length (fun _=>True) 0 trivial ?_ (fun q hq _=>?_) (Nat.zero_le _)
    ·refine wk_pushK (K:=3000001) (by show 1000000 + 4 + lv.length ≤ 3000001; omega) ?_ ?_ ?_ ?_ ?_ ?_ ?_ ?_ ?_ ?_ hL hLd ?_ (fun x hx=>?_)
     ·exact rfl
     ·exact rfl
     ·exact rfl
     ·exact rfl
     ·exact rfl
     ·exact rfl
     ·exact congrArg (D.row 1) hS.symm
     ·refine congrArg (D.row 5) ?_
      rw [hRW]
      exact congrArg ((rwK (bsK lv) (i + 1) cs).set i) (holeE_ren e 1000001 e.ks.length [1000001,3000001] 3000001 rfl)
     ·exact rfl
     ·refine LvK.congr lv _ _ (fun r hr=>?_) g4
      rw [nbr]
      repeat rw [Env.set_ne _ _ _ _ (by omega)]
     ·refine ⟨agrK1_slot (by decide) ?_,agrK1_slot (by decide) rfl,agrK1_slot (by decide) rfl,trivial⟩
      show _ = (D.own (nb + 1) 5 _).rnk L
      rw [D.rnk,hL.n1]
      rfl
     ·simp only [List.mem_cons,List.not_mem_nil,or_false] at hx
      rcases hx with rfl | rfl | rfl <;> first | (show (7 : Nat) < nb; decide) | (show (28 : Nat) < nb; decide) | (show (29 : Nat) < nb; decide)
    ·obtain ⟨q1,q2,q4⟩:=ofL_lvK ((cs,i,e) :: lv) 1000001 e.ks (3 + (lv.length + 1)) (by rw [List.length_cons]; exact Nat.le_refl _)
     obtain ⟨X,hXe⟩ : ∃ X,X = lvK 1000001 e.ks ((cs,i,e) :: lv):=⟨_,rfl⟩
     obtain ⟨pd,hpd⟩ : ∃ pd,pd = trE.pend ((cs,i,e) :: lv):=⟨_,rfl⟩
     obtain ⟨ro,hro⟩ : ∃ ro,ro = trE.rn ((cs,i,e) :: lv):=⟨_,rfl⟩
     obtain ⟨W2,hW2⟩ : ∃ W2,W2 = rwK (bsK ((cs,i,e) :: lv)) e.ks.length e.ks:=⟨_,rfl⟩
     have hW2l : W2.length = e.ks.length:=by rw [hW2,rwK_len]
     have hX6 : ofL (3 + (lv.length + 1)) X 2000036 = .free:=by rw [hXe]; exact q2 2000036 (by show 1000000 + (3 + (lv.length + 1)) ≤ 2000036; omega)
     have hX7 : ofL (3 + (lv.length + 1)) X 2000037 = .free:=by rw [hXe]; exact q2 2000037 (by show 1000000 + (3 + (lv.length + 1)) ≤ 2000037; omega)
     have hlen : (pd ++ trE.er 1000001 q).length = pd.length + q:=by rw [List.length_append,Tr.er_len]
     have htk : (pd ++ trE.er 1000001 q).take (pd.length + q) = pd ++ trE.er 1000001 q:=List.take_of_length_le (by rw [hlen]; exact Nat.le_refl _)
     have hpl3 : pd.length ≤ 800000:=by rw [hpd]; omega
     show dwp _ 0 _ (hold (ofL (3 + (lv.length + 1)) ((7,.own 1000001 5 e.ks.length) :: (28,I e.ks.length) :: (29,I q) :: (gh,.gho 0 [.fam (famOf (cleF e0) 0 m0)] 0 (t + 1)) :: (5,.own 1000000 1 ((trE.pend ((cs,i,e) :: lv)).length + q)) :: (2,.eref (trE.rn ((cs,i,e) :: lv)) 5 0 0) :: (1,ckD) :: (4,.ref 1000002 0) :: (1000000,.row 1 (trE.pend ((cs,i,e) :: lv) ++ trE.er 1000001 q)) :: (1000001,.row 5 (rwK (bsK ((cs,i,e) :: lv)) e.ks.length e.ks)) :: (1000002,.obj ozD) :: lvK 1000001 e.ks ((cs,i,e) :: lv)))) _ _ _
     rw [← hXe,← hpd,← hro,← hW2]
     by_cases hql : q < e.ks.length
     ·repeat' (first|with_reducible refine acc_none ?_ | (conv in hold _=>simp (disch:=omega) only [go_sem,hX6,hX7,hlen,htk,hW2l])|refine Stp.go ?_|(with_reducible first|refine it_pos rfl ?_|refine it_neg (by decide) ?_|refine st_nil rfl ?_|refine s_op ?_ ?_|exact trivial)|((with_reducible first|refine dw_reg0 ?_|refine dw_regB ?_);(conv=>arg 3;whnf))|(refine Spl.go (fun hq he=>?_) (fun hq he=>?_)<;>first|(exfalso;clear hq;omega)|((try first|(conv=>arg 8;simp only [hq])|(conv=>arg 4;simp only [hq]));clear hq))|((with_reducible first|refine c_split (fun hq=>?_) (fun hq=>?_)|refine q_split (fun hq=>?_) (fun hq=>?_))<;>(try first|(conv=>arg 8;simp only [hq])|(conv=>arg 4;simp only [hq])))|(with_reducible refine fin_0 ?_ (by first|rfl|(conv=>lhs;simp only [go_sem,hX6,hX7,hlen,htk,hW2l])) ?_)|exact Sub.refl _|omega)
      obtain ⟨L2,hL2⟩:=LW_nms (W:=2000037) (K:=nb + 1) (d:=lv.length + 1) (.inr (by show 1000000 + 3 + (lv.length + 1) ≤ 2000037; omega)) (.inl rfl) (by decide)
      refine ⟨hql,trivial,?_⟩
      refine wk_coreK (lv:=(cs,i,e) :: lv) ?_ hL2 ?_
      ·refine ⟨rfl,congrArg (fun l : List D=>D.own 2000037 1 (l.length + q + 1)) hpd,congrArg (fun g=>D.eref g 5 0 0) hro,rfl,rfl,rfl,?_,congrArg (D.row 5) hW2,?_⟩
       ·show D.row 1 (pd ++ trE.er 1000001 q ++ [D.eref 1000001 5 q 0]) = _
        rw [hpd,Tr.er_succ,List.append_assoc]
        rfl
       ·refine LvK.congr _ _ _ (fun r hr=>?_) q4
        rw [List.length_cons] at hr
        rw [nbr,← hXe]
        repeat rw [Env.set_ne _ _ _ _ (by omega)]
      ·refine ⟨agrK1_slot (by decide) ?_,agrK1_slot (by decide) rfl,agrK1_slot (by decide) rfl,trivial⟩
       show _ = (D.own (nb + 1) 5 _).rnk L2
       rw [D.rnk,hL2.n1]
       rfl
     ·obtain rfl : q = e.ks.length:=by omega
      repeat' (first|with_reducible refine acc_none ?_ | (conv in hold _=>simp (disch:=omega) only [go_sem])|refine Stp.go ?_|(with_reducible first|refine it_pos rfl ?_|refine it_neg (by decide) ?_|refine st_nil rfl ?_|refine s_op ?_ ?_|exact trivial)|((with_reducible first|refine dw_reg0 ?_|refine dw_regB ?_);(conv=>arg 3;whnf))|(refine Spl.go (fun hq he=>?_) (fun hq he=>?_)<;>first|(exfalso;clear hq;omega)|((try first|(conv=>arg 8;simp only [hq])|(conv=>arg 4;simp only [hq]));clear hq))|((with_reducible first|refine c_split (fun hq=>?_) (fun hq=>?_)|refine q_split (fun hq=>?_) (fun hq=>?_))<;>(try first|(conv=>arg 8;simp only [hq])|(conv=>arg 4;simp only [hq])))|(with_reducible refine fin_0 ?_ (by first|rfl|(conv=>lhs;simp only [go_sem])) ?_)|exact Sub.refl _|omega)
      obtain ⟨lv',cs',p',t',n1,n2,n3,n4,n5,n6,n8,n9,n7⟩:=wk_normK (e0:=e0) (m0:=m0) ((cs,i,e) :: lv) e.ks e.ks.length (t + 1) hwp (Nat.le_refl _) hst2 (by rw [hdn,hbk,List.length_cons]; omega)
      obtain ⟨L2,hL2⟩:=LW_nms (W:=nb) (K:=nb + 1) (d:=lv.length + 1) (.inl rfl) (.inl rfl) (by decide)
      rw [List.length_cons] at n5 n9
      refine ⟨(t',lv',cs',p'),⟨n8,n1,n2,n3,n6.trans hb,?_⟩,?_,Wk.trans ?_ (Wk.trans (wk_nextK (e0:=e0) (m0:=m0) (t:=t) (lv:=(cs,i,e) :: lv) (cs:=e.ks) (p:=e.ks.length) (q:=e.ks.length) ?_ ?_) n7)⟩
      ·show bsK lv' + nRL (List.drop p' cs') + lv'.length + trE.lefts lv' + trE.left cs' p' ≤ 800000
       omega
      ·show trE.lefts lv' + trE.left cs' p' < trE.lefts lv + trE.left cs (i + 1)
       omega
      ·refine wk_coreK (lv:=(cs,i,e) :: lv) (xs:=[]) ?_ hL2 trivial
       refine ⟨rfl,congrArg (fun l : List D=>D.own 1000000 1 (l.length + e.ks.length)) hpd,congrArg (fun g=>D.eref g 5 0 0) hro,rfl,rfl,rfl,?_,congrArg (D.row 5) hW2,?_⟩
       ·exact congrArg (fun l : List D=>D.row 1 (l ++ trE.er 1000001 e.ks.length)) hpd
       ·refine LvK.congr _ _ _ (fun r hr=>?_) q4
        rw [List.length_cons] at hr
        rw [nbr,← hXe]
        repeat rw [Env.set_ne _ _ _ _ (by omega)]
      ·rw [hct,hct2,hdn]
       rfl
      ·intro w m B h
       rw [hci] at h
       rw [hci2,List.drop_length]
       exact h
theorem cloneExpr_rc (e : E) (h : esz e ≤ 800000) : RCalls Try.prog 39 [] [eD e] [⟨0,5,e.ks.map eD⟩] 1 (eK 0 e):=by
 have h1:=cloneTree_rc e h
 have hn1 : nb = 1000000:=rfl
 let fm : Fm:=⟨fun i=>i,fun i=>if i = 0 then [] else [⟨0,5,e.ks.map eD⟩]⟩
 refine rcalls_of c_Z10 mixed fm 0 1 (fun κ=>if κ = 0 then 0 else 2000000) (Nat.le_of_ble_eq_true rfl) (eK_low _ _) rfl (List.Perm.refl _) (List.Perm.refl _) (fun it hit _=>?_) (fun κ h=>absurd h (Nat.not_lt_zero κ)) (fun κ hκ=>?_) (Nat.zero_le _) (by omega) (fun m0=>?_)
 ·obtain rfl:=List.mem_singleton.1 hit
  exact Nat.zero_lt_one
 ·show nb ≤ if κ = 0 then _ else 2000000
  rw [if_neg (by omega)]; decide
 rw [eK_rk,if_pos rfl]
 conv=>arg 3; whnf
 unfold eK
 rcases kD_two 0 5 (e.ks.map eD) with k1 | k1
 all_goals (
  have k2 : (eK 0 e).rk (keyR [] (fm.top 0)) = .agg [I e.k,I e.c,Bo e.v.b,I e.v.n,kD 0 5 (e.ks.map eD)]:=eK_rk _ _ _
  rw [k1] at k2 ⊢
  repeat' ((fail_if_success (with_reducible first | refine s_call ?_ | refine s_cal ?_ | refine s_inv ?_)); first | with_reducible refine acc_none ?_ | (conv in hold _=>simp (disch:=omega) only [go_sem])|refine Stp.go ?_|(with_reducible first|refine it_pos rfl ?_|refine it_neg (by decide) ?_|refine st_nil rfl ?_|refine s_op ?_ ?_|exact trivial)|((with_reducible first|refine dw_reg0 ?_|refine dw_regB ?_);(conv=>arg 3;whnf))|(refine Spl.go (fun hq he=>?_) (fun hq he=>?_)<;>first|(exfalso;clear hq;omega)|((try first|(conv=>arg 8;simp only [hq])|(conv=>arg 4;simp only [hq]));clear hq))|((with_reducible first|refine c_split (fun hq=>?_) (fun hq=>?_)|refine q_split (fun hq=>?_) (fun hq=>?_))<;>(try first|(conv=>arg 8;simp only [hq])|(conv=>arg 4;simp only [hq])))|(with_reducible refine fin_0 ?_ (by first|rfl|(conv=>lhs;simp only [go_sem])) ?_)|exact Sub.refl _|omega)
  refine s_rcall (fm:=fm) (p:=0) (m0:=m0) (k:=0) 1 [] [] h1 (by ((conv=>lhs; simp (disch:=omega) only [go_sem]); try rfl)) (by ((conv=>lhs; simp (disch:=omega) only [go_sem]); try rfl)) (show [D.agg [I e.k,I e.c,Bo e.v.b,I e.v.n,.sl 5 (e.ks.map eD)],ckD] = [(eD e).rk _,ckD] by rw [rk_pur _ (eD e) (trE.pur e),eD_eq]) k2 (by rw [D.lowL,eD_eq]; rfl) (eK_low _ _) rfl (fun κ h=>(by cases h)) (Nat.zero_le _) (List.Perm.refl _) (List.Perm.refl _) (fun it hit hne=>(by cases hit)) (fun it hit hne=>?_) (fun it hit hne=>(by cases hit)) (Nat.zero_le _) rfl (show 1 ≤ 900000 by omega) (Nat.zero_le _) ?_
  ·obtain rfl:=List.mem_singleton.1 hit
   exact Nat.zero_lt_one
  ·repeat' (first|with_reducible refine acc_none ?_ | (conv in hold _=>simp (disch:=omega) only [go_sem])|refine Stp.go ?_|(with_reducible first|refine it_pos rfl ?_|refine it_neg (by decide) ?_|refine st_nil rfl ?_|refine s_op ?_ ?_|exact trivial)|((with_reducible first|refine dw_reg0 ?_|refine dw_regB ?_);(conv=>arg 3;whnf))|(refine Spl.go (fun hq he=>?_) (fun hq he=>?_)<;>first|(exfalso;clear hq;omega)|((try first|(conv=>arg 8;simp only [hq])|(conv=>arg 4;simp only [hq]));clear hq))|((with_reducible first|refine c_split (fun hq=>?_) (fun hq=>?_)|refine q_split (fun hq=>?_) (fun hq=>?_))<;>(try first|(conv=>arg 8;simp only [hq])|(conv=>arg 4;simp only [hq])))|(with_reducible refine fin_0 ?_ (by first|rfl|(conv=>lhs;simp only [go_sem])) ?_)|exact Sub.refl _|omega)
   refine fin_RC (by ((conv=>lhs; simp (disch:=omega) only [go_sem]); try rfl)) ?_ ?_
   ·repeat' (first|(conv in hold _=>simp (disch:=omega) only [go_sem])|exact trivial|exact Sub.refl _|omega)
   ·(try simp only [List.length_map])
    exact (by ((conv=>lhs; simp (disch:=omega) only [go_sem]); try rfl)))
end Go.Proofs.Ytclkehekhdfnnaa
