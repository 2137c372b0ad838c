/-
  The copy of an expression, its kids' rows trees under keys: the steps, and the program's copy. No condition.
-/
import Derived.Test.YtclkehekhdfnnaaKSVClK
set_option maxHeartbeats 4000000
set_option maxRecDepth 100000
set_option linter.unusedVariables false
set_option linter.unusedSimpArgs false
namespace Go.Proofs.Ytclkehekhdfnnaa
open Go.RowKit
theorem OwnL.nilC {κ s : Nat} {l : List It} {w : World} {m : Names} {B : Blocks} (h : OwnL l w m B) : OwnL (⟨κ,s,[]⟩ :: l) w m B:=⟨noBlocks,B,.inl ⟨rfl,fun _ hb=>hb⟩,h,fun _ hb=>hb.elim,fun b=>⟨.inr,fun h=>h.elim (fun h=>h.elim) id⟩⟩
section
variable (e0 : E) (m0 : Names)
def coreK (t : Nat) (lv : trE.Lv) (cs : List E) (p q : Nat) : List (Nat × D):=
 (gh,.gho 0 [.fam (famOf (cleF e0) 0 m0)] 0 t) :: (5,.own nb 1 ((trE.pend lv).length + q)) :: (2,.eref (trE.rn lv) 5 0 0) :: (1,ckD) :: (4,.ref (nb + 2) 0) :: (nb,.row 1 (trE.pend lv ++ trE.er (nb + 1) q)) :: (nb + 1,.row 5 (rwK (bsK lv) p cs)) :: (nb + 2,.obj ozD) :: lvK (nb + 1) cs lv
structure SlK (t W : Nat) (σ : Env) (lv : trE.Lv) (cs : List E) (p q : Nat) : Prop where
 g : σ gh = .gho 0 [.fam (famOf (cleF e0) 0 m0)] 0 t
 w : σ 5 = .own W 1 ((trE.pend lv).length + q)
 r : σ 2 = .eref (trE.rn lv) 5 0 0
 f : σ 1 = ckD
 z : σ 4 = .ref (nb + 2) 0
 ob : σ (nb + 2) = .obj ozD
 st : σ W = .row 1 (trE.pend lv ++ trE.er (nb + 1) q)
 top : σ (nb + 1) = .row 5 (rwK (bsK lv) p cs)
 lvs : LvK σ (nb + 1) cs lv
variable {e0 m0}
theorem coreK_ok (t : Nat) (lv : trE.Lv) (cs : List E) (p q : Nat) : SlK e0 m0 t nb (ofL (3 + lv.length) (coreK e0 m0 t lv cs p q)) lv cs p q:=by
 obtain ⟨h1,h2,h4⟩:=ofL_lvK lv (nb + 1) cs (3 + lv.length) (Nat.le_refl _)
 have hn : nb = 1000000:=rfl
 have hg : gh = 999999:=rfl
 have e : ∀ x,ofL (3 + lv.length) (coreK e0 m0 t lv cs p q) x = if x = gh then .gho 0 [.fam (famOf (cleF e0) 0 m0)] 0 t else if x = 5 then .own nb 1 ((trE.pend lv).length + q) else if x = 2 then .eref (trE.rn lv) 5 0 0 else if x = 1 then ckD else if x = 4 then .ref (nb + 2) 0 else if x = nb then .row 1 (trE.pend lv ++ trE.er (nb + 1) q) else if x = nb + 1 then .row 5 (rwK (bsK lv) p cs) else if x = nb + 2 then .obj ozD else ofL (3 + lv.length) (lvK (nb + 1) cs lv) x:=fun x=>rfl
 refine ⟨?_,?_,?_,?_,?_,?_,?_,?_,?_⟩
 ·rw [e,if_pos rfl]
 ·rw [e,if_neg (by omega),if_pos rfl]
 ·rw [e,if_neg (by omega),if_neg (by omega),if_pos rfl]
 ·rw [e,if_neg (by omega),if_neg (by omega),if_neg (by omega),if_pos rfl]
 ·rw [e,if_neg (by omega),if_neg (by omega),if_neg (by omega),if_neg (by omega),if_pos rfl]
 ·rw [e,if_neg (by omega),if_neg (by omega),if_neg (by omega),if_neg (by omega),if_neg (by omega),if_neg (by omega),if_neg (by omega),if_pos rfl]
 ·rw [e,if_neg (by omega),if_neg (by omega),if_neg (by omega),if_neg (by omega),if_neg (by omega),if_pos rfl]
 ·rw [e,if_neg (by omega),if_neg (by omega),if_neg (by omega),if_neg (by omega),if_neg (by omega),if_neg (by omega),if_pos rfl]
 ·refine LvK.congr lv _ _ (fun r hr=>?_) h4
  rw [e,if_neg (by omega),if_neg (by omega),if_neg (by omega),if_neg (by omega),if_neg (by omega),if_neg (by omega),if_neg (by omega),if_neg (by omega)]
theorem agrK1_n0 {σ : Env} {L : List Nat} {g : Nat} {d : D} (hL : L[0]? = some g) (hd : d.nmd = true) (h : σ g = d.rnk L) : agrK1 σ L (nb,d):=agrK1_at (Nat.add_zero nb).symm hL hd h
theorem rnk_pure (L : List Nat) {l : List D} (h : D.purL l = true) : D.rnkL L l = l:=by
 have:=rnk_pur L (.agg l) h
 rw [D.rnk] at this
 injection this
theorem wk_coreK {t W : Nat} {σ : Env} {lv : trE.Lv} {cs : List E} {p q : Nat} (h : SlK e0 m0 t W σ lv cs p q) {L : List Nat} (hL : Nms L W (nb + 1) lv.length (3 + lv.length)) {xs : List (Nat × D)} (hx : agrK σ L xs) : Wk 0 σ (ofL (3 + lv.length) (xs ++ coreK e0 m0 t lv cs p q)):=by
 refine Wk.listK L hL.len hL.can ?_
 show agrK _ _ _
 refine agrK_append hx ⟨agrK1_slot (by decide) ?_,agrK1_slot (by decide) ?_,agrK1_slot (by decide) ?_,agrK1_slot (by decide) ?_,agrK1_slot (by decide) ?_,agrK1_n0 hL.z rfl ?_,agrK1_at rfl hL.o rfl ?_,agrK1_at rfl hL.t rfl ?_,agrK_lv lv _ _ _ hL.l hL.n1 h.lvs⟩
 ·rw [h.g,D.rnk]
 ·rw [h.w,D.rnk,hL.n0]
 ·rw [h.r,D.rnk,Tr.rn_LW hL]
 ·rw [h.f,rnk_pur _ _ rfl]
 ·rw [h.z,D.rnk,hL.n2]
 ·rw [h.st,D.rnk,rnkL_append,pend_rnk lv hL.l,er_rnk hL.n1]
 ·rw [h.top,D.rnk,rwK_rnk]
 ·rw [h.ob,D.rnk,rnk_pure _ rfl]
theorem wk_pushK {t K i : Nat} {e : E} {σ : Env} {lv : trE.Lv} {cs : List E} (hK : nb + 4 + lv.length ≤ K) (h0 : σ gh = .gho 0 [.fam (famOf (cleF e0) 0 m0)] 0 t) (h1 : σ 5 = .own nb 1 ((trE.pend lv).length + i)) (h2 : σ 2 = .eref (trE.rn lv) 5 0 0) (h3 : σ 1 = ckD) (h8 : σ 4 = .ref (nb + 2) 0) (h9 : σ (nb + 2) = .obj ozD)
  (h4 : σ nb = .row 1 (trE.pend lv ++ trE.er (nb + 1) (i + 1))) (h5 : σ (nb + 1) = .row 5 ((rwK (bsK lv) (i + 1) cs).set i (holeE e K e.ks.length))) (h6 : σ K = .row 5 (e.ks.map eD)) (h7 : LvK σ (nb + 1) cs lv) {L : List Nat} (hL : Nms L nb K lv.length (3 + (lv.length + 1))) (hLd : L[3 + lv.length]? = some (nb + 1)) {xs : List (Nat × D)} (hx : agrK σ L xs) (hxs : ∀ x,x ∈ xs → x.1 < nb) :
  Wk 0 σ (ofL (3 + (lv.length + 1)) (xs ++ coreK e0 m0 t ((cs,i,e) :: lv) e.ks e.ks.length 0)):=by
 have hcut:=wk_cut (k:=0) (σ:=σ) nb ((trE.pend lv).length + i) (Nat.le_refl _) h4 (by rw [List.length_append,Tr.er_len]; omega)
 refine hcut.trans (Wk.listK L hL.len hL.can ?_)
 have e4 : (trE.pend lv ++ trE.er (nb + 1) (i + 1)).take ((trE.pend lv).length + i) = trE.pend lv ++ trE.er (nb + 1) i:=by
  rw [Tr.er_succ,← List.append_assoc,List.take_append_of_le_length (by rw [List.length_append,Tr.er_len]; omega),List.take_of_length_le (by rw [List.length_append,Tr.er_len]; omega)]
 rw [e4]
 show agrK _ _ _
 have hnd : nameOf L (nb + 3 + lv.length) = some (nb + 1):=by rw [show nb + 3 + lv.length = nb + (3 + lv.length) by omega,nameOf_at,hLd]
 have hne : ∀ g : Nat,g ≠ nb → (σ.set nb (.row 1 (trE.pend lv ++ trE.er (nb + 1) i))) g = σ g:=fun g hg=>Env.set_ne _ _ _ _ hg
 have hn : nb = 1000000:=rfl
 have hgh : gh = 999999:=rfl
 refine agrK_append ?_ ⟨agrK1_slot (by decide) ?_,agrK1_slot (by decide) ?_,agrK1_slot (by decide) ?_,agrK1_slot (by decide) ?_,agrK1_slot (by decide) ?_,agrK1_n0 hL.z rfl ?_,agrK1_at rfl hL.o rfl ?_,agrK1_at rfl hL.t rfl ?_,agrK1_at (i:=3 + lv.length) (by omega) hLd rfl ?_,agrK_lv lv (nb + 1) _ _ hL.l hnd ?_⟩
 ·induction xs with
  | nil=>trivial
  | cons x xs ih=>
   have hlt:=hxs x (List.mem_cons_self ..)
   refine ⟨?_,ih hx.2 (fun y hy=>hxs y (List.mem_cons_of_mem _ hy))⟩
   have h0:=hx.1
   unfold agrK1 at h0 ⊢
   rw [if_pos hlt] at h0 ⊢
   rw [hne _ (by omega)]
   exact h0
 ·rw [hne _ (by omega),h0,D.rnk]
 ·rw [hne _ (by omega),h1,D.rnk,hL.n0,Tr.pend,List.length_append,Tr.er_len,Nat.add_zero]
 ·rw [hne _ (by omega),h2,D.rnk]
  have h0 : nameOf L (trE.rn ((cs,i,e) :: lv)) = some (trE.rn lv):=by
   cases lv with
   | nil=>exact hnd
   | cons y ys=>exact hL.nl (r:=0) (by rw [List.length_cons]; omega)
  rw [h0]
 ·rw [hne _ (by omega),h3,rnk_pur _ _ rfl]
 ·rw [hne _ (by omega),h8,D.rnk,hL.n2]
 ·rw [Env.set_same,D.rnk,rnkL_append,Tr.pend,rnkL_append,pend_rnk lv hL.l,er_rnk hnd]
  rw [show trE.er (nb + 1) 0 = [] from rfl]
  rw [show D.rnkL L [] = [] from rfl,List.append_nil]
 ·rw [hne _ (by omega),h6,D.rnk,rwK_rnk,rwK_all]
 ·rw [hne _ (by omega),h9,D.rnk,rnk_pure _ rfl]
 ·rw [hne _ (by omega),h5,D.rnk]
  exact (congrArg (D.row 5) ((krw_set_rnk L (bsK lv) (i + 1) i cs (holeE e (nb + 1) e.ks.length)).trans (congrArg (fun d=>(rwK (bsK lv) (i + 1) cs).set i d) (holeE_rnk _ _ _ _ _ hL.n1)))).symm
 ·exact LvK.congr lv _ _ (fun r hr=>hne _ (by omega)) h7
theorem holeE_cells (e : E) (g n : Nat) : (holeE e g n).cells = [I e.k,I e.c,Bo e.v.b,I e.v.n,.own g 5 n]:=rfl
theorem wk_popK {t : Nat} {σ : Env} {x : List E × Nat × E} {rest : trE.Lv} {cs : List E} (h : SlK e0 m0 (t + 1) nb σ (x :: rest) cs 0 0) (hw : WfK cs (x :: rest)) (hst : stK e0 t = (x :: rest,cs,0)) (hN : bsK (x :: rest) + nRL cs < 900000) : Wk 0 σ (ofL (3 + rest.length) (coreK e0 m0 (t + 2) rest x.1 x.2.1 x.2.1)):=by
 obtain ⟨hq,hl⟩:=h.lvs
 obtain ⟨⟨hx,hxk,hc0⟩,hwr⟩:=hw
 obtain ⟨xs,i,e⟩:=x
 have hx : xs[i]? = some e:=hx
 have hxk : e.ks = cs:=hxk
 have hq : σ (nb + 3 + rest.length) = .row 5 ((rwK (bsK rest) (i + 1) xs).set i (holeE e (nb + 1) cs.length)):=hq
 have hil:=(List.getElem?_eq_some_iff.1 hx).1
 have hst2 : stK e0 (t + 1) = (rest,xs,i):=by rw [stK,hst]; rfl
 obtain ⟨ht1,hi1⟩:=cleF_at hst
 obtain ⟨ht2,hi2⟩:=cleF_at hst2
 have hb' : bsK ((xs,i,e) :: rest) = bsK rest + nRL (xs.drop (i + 1)):=rfl
 have hne1 : nk e = 1:=by unfold nk; rw [if_neg (by rw [hxk]; exact hc0)]
 have hnR : nR e = 1 + nRL cs:=by rw [nR_eq,hne1,hxk]
 have hdr : nRL (xs.drop i) = nR e + nRL (xs.drop (i + 1)):=by rw [nRL_drop hx,nRL]
 have htop1 : (cleF e0).top (t + 1) = bsK ((xs,i,e) :: rest) + nRL cs:=ht1
 have hkey : bsK rest + nRL (xs.drop i) - 1 = (cleF e0).top (t + 1):=by rw [htop1,hb',hdr,hnR]; omega
 have hmapne : cs.map eD ≠ []:=fun h=>hc0 (List.map_eq_nil_iff.1 h)
 have hcells : ∀ d,d ∈ (rwK (bsK rest) (i + 1) xs).set i (holeE e (nb + 1) cs.length) → d.cells.length = 5:=set_cells (rwK_cells _ _ _) rfl
 have hlen : (rwK (bsK rest) (i + 1) xs).length = xs.length:=rwK_len _ _ _
 have hfold:=wk_foldR (kk:=0) (fm:=cleF e0) (p:=0) (m0:=m0) (k:=t + 1) (t + 2) (nb + 3 + rest.length) (nb + 1) 5 5 (i * 5 + 4) (cs.map eD) (rwK (bsK ((xs,i,e) :: rest)) 0 cs) ((rwK (bsK rest) (i + 1) xs).set i (holeE e (nb + 1) cs.length)) (rwK (bsK rest) i xs) (fun j=>bsK ((xs,i,e) :: rest) + nRL (cs.drop (j / 5)) - 1) (itsLv ((xs,i,e) :: rest))
  h.g (by omega) hq (by omega)
  (by rw [set_cell (rwK_cells _ _ _) rfl (by omega) (by rw [hlen]; exact hil),if_pos rfl,List.length_map]; rfl)
  (rwK_cells _ _ _) (by rw [List.length_set,rwK_len,rwK_len])
  (by
   apply List.ext_getElem?
   intro j
   rw [List.getElem?_set]
   by_cases hj : j < xs.length * 5
   ·obtain ⟨a,c,ha,hc,rfl⟩:=div_split hj
    rw [← rwK_set hx,hkey,set_cell (rwK_cells _ _ _) rfl hc (by rw [hlen]; exact hil),set_cell (rwK_cells _ _ _) rfl hc (by rw [hlen]; exact hil)]
    by_cases hai : a = i
    ·subst hai
     rw [if_pos rfl,if_pos rfl]
     by_cases hc4 : c = 4
     ·subst hc4
      rw [if_pos rfl,if_pos (by rw [flat_len hcells,List.length_set,hlen]; omega),eK_cells,hxk]
      show some (kD _ 5 (cs.map eD)) = _
      unfold kD
      rw [if_neg hmapne]
     ·rw [if_neg (by omega),eK_cells,holeE_cells]
      match c,hc,hc4 with
      | 0,_,_=>rfl
      | 1,_,_=>rfl
      | 2,_,_=>rfl
      | 3,_,_=>rfl
      | 4,_,h=>exact absurd rfl h
    ·rw [if_neg hai,if_neg hai,if_neg (by omega)]
   ·rw [List.getElem?_eq_none (by rw [flat_len (rwK_cells _ _ _),rwK_len]; omega),if_neg (by omega),List.getElem?_eq_none (by rw [flat_len hcells,List.length_set,hlen]; omega)])
  (by omega) h.top hmapne (by rw [rwK_len,List.length_map]) (eDs_cells cs) (by rw [flat_len (rwK_cells _ _ _),flat_len (eDs_cells cs),rwK_len,List.length_map])
  (fun j d hd=>krw_cells _ cs j d hd)
  (fun w m B hO=>by
   rw [hi1] at hO
   have e1:=itsC_K (fun j=>bsK ((xs,i,e) :: rest) + nRL (cs.drop (j / 5)) - 1) (bsK ((xs,i,e) :: rest)) cs 0 (fun a _=>by show _ + nRL (cs.drop ((5 * (0 + a) + 4) / 5)) - 1 = _; rw [show (5 * (0 + a) + 4) / 5 = a by omega])
   rw [Nat.mul_zero] at e1
   rw [e1]
   exact hO)
  (by
   rw [hi2,← hkey,nRL_drop hx]
   show List.Perm (⟨bsK rest + nRL (e :: xs.drop (i + 1)) - 1,5,e.ks.map eD⟩ :: itQ (bsK rest) (xs.drop (i + 1)) ++ itsLv rest) _
   rw [hxk]
   exact List.Perm.refl _)
  (fun it hit hne=>by
   have:=itsLv_lt _ it hit hne
   rw [htop1]; omega)
  (by rw [ht2,htop1,hb',hdr,hnR]; omega) (by
   rw [ht2,hdr,hnR]
   have hN : bsK rest + nRL (xs.drop (i + 1)) + nRL cs < 900000:=hN
   omega) (Nat.zero_le _)
 obtain ⟨L,hL⟩:=LW_nms (W:=nb) (K:=nb + 3 + rest.length) (d:=rest.length) (.inl rfl) (.inr (Nat.le_refl _)) (by omega)
 refine hfold.trans (Wk.listK L hL.len hL.can ?_)
 have hn : nb = 1000000:=rfl
 have hgh : gh = 999999:=rfl
 have hE : ∀ v1 v2 v3 : D,Env.put [(gh,v1),(nb + 1,v2),(nb + 3 + rest.length,v3)] σ = ((σ.set gh v1).set (nb + 1) v2).set (nb + 3 + rest.length) v3:=fun _ _ _=>rfl
 rw [hE]
 have hne : ∀ (v1 v2 v3 : D) (g : Nat),g ≠ gh → g ≠ nb + 1 → g ≠ nb + 3 + rest.length → (((σ.set gh v1).set (nb + 1) v2).set (nb + 3 + rest.length) v3) g = σ g:=fun v1 v2 v3 g h0 h1 h2=>by rw [Env.set_ne _ _ _ _ h2,Env.set_ne _ _ _ _ h1,Env.set_ne _ _ _ _ h0]
 show agrK _ _ _
 refine ⟨agrK1_slot (by decide) ?_,agrK1_slot (by decide) ?_,agrK1_slot (by decide) ?_,agrK1_slot (by decide) ?_,agrK1_slot (by decide) ?_,agrK1_n0 hL.z rfl ?_,agrK1_at rfl hL.o rfl ?_,agrK1_at rfl hL.t rfl ?_,agrK_lv rest (nb + 3 + rest.length) _ _ hL.l hL.n1 ?_⟩
 ·rw [Env.set_ne _ _ _ _ (by omega),Env.set_ne _ _ _ _ (by omega),Env.set_same,D.rnk]
 ·rw [hne _ _ _ _ (by omega) (by omega) (by omega),h.w,D.rnk,hL.n0]
  show D.own nb 1 ((trE.pend rest ++ trE.er (nb + 3 + rest.length) i).length + 0) = _
  rw [List.length_append,Tr.er_len,Nat.add_zero]
 ·rw [hne _ _ _ _ (by omega) (by omega) (by omega),h.r,D.rnk]
  have h0 : nameOf L (trE.rn rest) = some (trE.rn ((xs,i,e) :: rest)):=by
   cases rest with
   | nil=>exact hL.n1
   | cons y ys=>exact hL.nl (r:=0) (by rw [List.length_cons]; omega)
  rw [h0]
  rfl
 ·rw [hne _ _ _ _ (by omega) (by omega) (by omega),h.f,rnk_pur _ _ rfl]
 ·rw [hne _ _ _ _ (by omega) (by omega) (by omega),h.z,D.rnk,hL.n2]
 ·rw [hne _ _ _ _ (by omega) (by omega) (by omega),h.st,D.rnk,rnkL_append,pend_rnk rest hL.l,er_rnk hL.n1]
  show D.row 1 ((trE.pend rest ++ trE.er (nb + 3 + rest.length) i) ++ []) = _
  rw [List.append_nil]
 ·rw [Env.set_same,D.rnk,rwK_rnk]
 ·rw [hne _ _ _ _ (by omega) (by omega) (by omega),h.ob,D.rnk,rnk_pure _ rfl]
 ·exact LvK.congr rest _ _ (fun r hr=>hne _ _ _ _ (by omega) (by omega) (by omega)) hl
theorem WfK.wf : ∀ {lv : trE.Lv} {cs : List E},WfK cs lv → trE.Wf cs lv
 | [],_,_=>trivial
 | _ :: _,_,h=>⟨h.1.1,h.1.2.1,WfK.wf h.2⟩
theorem wk_normK : ∀ (lv : trE.Lv) (cs : List E) (p t : Nat),WfK cs lv → p ≤ cs.length → stK e0 t = (lv,cs,p) → bsK lv + nRL (cs.drop p) + lv.length < 900000 → ∃ (lv' : trE.Lv) (cs' : List E) (p' t' : Nat),WfK cs' lv' ∧ (0 < p' ∨ lv' = []) ∧ p' ≤ cs'.length ∧ trE.lefts lv' + trE.left cs' p' = trE.lefts lv + trE.left cs p ∧ lv'.length ≤ lv.length ∧ Tr.bot (T:=trE) cs' lv' = Tr.bot (T:=trE) cs lv ∧ stK e0 t' = (lv',cs',p') ∧ bsK lv' + nRL (cs'.drop p') + lv'.length = bsK lv + nRL (cs.drop p) + lv.length ∧
  Wk 0 (ofL (3 + lv.length) (coreK e0 m0 (t + 1) lv cs p p)) (ofL (3 + lv'.length) (coreK e0 m0 (t' + 1) lv' cs' p' p'))
 | [],cs,p,t,hw,hp,hst,hN=>⟨[],cs,p,t,hw,.inr rfl,hp,rfl,Nat.le_refl _,rfl,hst,rfl,Wk.refl _ _⟩
 | x :: rest,cs,p,t,hw,hp,hst,hN=>by
  cases p with
  | succ p=>exact ⟨x :: rest,cs,p + 1,t,hw,.inl (by omega),hp,rfl,Nat.le_refl _,rfl,hst,rfl,Wk.refl _ _⟩
  | zero=>
   obtain ⟨⟨hx,hxk,hc0⟩,hwr⟩:=hw
   have hlt:=(List.getElem?_eq_some_iff.1 hx).1
   rw [List.length_cons] at hN
   have hN : bsK (x :: rest) + nRL cs + (rest.length + 1) < 900000:=hN
   have hst2 : stK e0 (t + 1) = (rest,x.1,x.2.1):=by rw [stK,hst]; rfl
   have hdr : nRL (List.drop x.2.1 x.1) = nR x.2.2 + nRL (List.drop (x.2.1 + 1) x.1):=(congrArg nRL (nRL_drop hx)).trans rfl
   have hne1 : nk x.2.2 = 1:=by unfold nk; rw [if_neg (by rw [hxk]; exact hc0)]
   have hnR : nR x.2.2 = 1 + nRL cs:=(nR_eq x.2.2).trans (by rw [hne1,hxk])
   have hb' : bsK (x :: rest) = bsK rest + nRL (List.drop (x.2.1 + 1) x.1):=rfl
   obtain ⟨lv',cs',p',t',h1,h2,h3,h4,h5,h6,h8,h9,h7⟩:=wk_normK rest x.1 x.2.1 (t + 1) hwr (Nat.le_of_lt hlt) hst2 (by rw [hdr,hnR]; omega)
   refine ⟨lv',cs',p',t',h1,h2,h3,?_,by rw [List.length_cons]; omega,h6,h8,?_,(wk_popK (coreK_ok (t + 1) (x :: rest) cs 0 0) ⟨⟨hx,hxk,hc0⟩,hwr⟩ hst (by omega)).trans h7⟩
   ·rw [h4,Tr.lefts,show trE.left cs 0 = 0 from rfl,Nat.add_zero]
   ·rw [h9,hdr,hnR,List.length_cons]
    show _ = bsK (x :: rest) + nRL cs + _
    omega
end
end Go.Proofs.Ytclkehekhdfnnaa
