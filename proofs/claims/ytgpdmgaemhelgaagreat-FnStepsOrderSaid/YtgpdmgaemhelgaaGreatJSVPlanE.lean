/-
  Drawn plans with widths. No condition.
-/
import Derived.Test.YtgpdmgaemhelgaaGreatKSDca
import Derived.Test.YtgpdmgaemhelgaaGreatJSVLaw
import Derived.Test.YtgpdmgaemhelgaaGreatJSVRr
import Derived.Test.YtgpdmgaemhelgaaGreatJSVYld
import Derived.Test.YtgpdmgaemhelgaaGreatJSVCpE
import Derived.Test.YtgpdmgaemhelgaaGreatJSVCond
import Derived.Test.YtgpdmgaemhelgaaGreatJSVPlanO
set_option maxHeartbeats 4000000
set_option maxRecDepth 100000
set_option linter.unusedVariables false
set_option linter.unusedSimpArgs false
namespace Go.Proofs.YtgpdmgaemhelgaaGreat
open Go.RowKit
theorem randomWidths_own {bs : List Nat} (hs : Src bs) (p : Nat) (hp : p < 100000000) : ∃ (ws : List Int) (q : Nat),(Does Tryz.prog 80 [rdD bs p] [.ref 1000000 0] (.own 1000001 1 ws.length) [rdD bs q,wrD ws] ∧ (2 ≤ ws.length ∧ ws.length ≤ 3) ∧ ∀ (i : Nat) (w : Int),ws[i]? = some w → 1 ≤ w ∧ w ≤ 2) ∧ p ≤ q ∧ q ≤ p + 10:=by
 obtain ⟨k,hk,k0,k1,_⟩:=pick_ok hs p (by omega) 2 (by omega)
 have hk1:=k1 (by omega)
 obtain ⟨m,rfl⟩:=Int.eq_ofNat_of_zero_le k0
 obtain ⟨ws,ps,hl,h0,hd,hp0,hp1⟩:=draws (fun p (w : Int) q=>q = p + 1 ∧ DPick bs p 2 (w - 1) ∧ 1 ≤ w ∧ w ≤ 2) 900000000 1 (fun p hp=>by
  obtain ⟨v,hv,v0,v1,_⟩:=pick_ok hs p (by omega) 2 (by omega)
  have hv1:=v1 (by omega)
  refine ⟨v + 1,p + 1,⟨rfl,by rw [show v + 1 - 1 = v by omega]; exact hv,by omega,by omega⟩,by omega,by omega⟩) (2 + m) (p + 1) (by omega)
 refine ⟨ws,ps (2 + m),⟨?_,by omega,fun i w hi=>(hd i w hi).2.2⟩,by omega,by omega⟩
 refine Bk c_Z48 mixed 1 (go1 trivial ?_)
 refine UcR [1000000] trivial (hk) (go1 trivial ?_)
 refine dw_for (c:=2) (l:=fun i=>[(0,.ref 1000000 0),(3,.own 1000001 1 i),(4,I (2 + (m : Int) - i)),(1000000,rdD bs (ps i)),(1000001,.row 1 ((ws.take i).map I))]) (2 + m) (fun _=>True) 0 trivial ((wk_row 3 2000018 1 (by decide) (by decide) rfl rfl).trans (Wk.list [1000000,2000018] rfl rfl ?_)) (fun i hi _=>?_) (Nat.zero_le _)
 ·rw [h0]
  repeat' (first|(conv in hold _=>simp (disch:=omega) only [go_sem])|exact trivial|exact Sub.refl _|omega)
  exact congrArg (fun n=>D.v (Value.int .i64 n)) (by omega)
 ·have hlt:=take_len (vs:=ws) (i:=i) (by omega)
  have hmt:=take_map I (vs:=ws) (i:=i) (by omega)
  by_cases hil : i < 2 + m
  ·obtain ⟨w,hw⟩ : ∃ w,ws[i]? = some w:=⟨ws[i],List.getElem?_eq_getElem (by omega)⟩
   obtain ⟨x1,x2,x3,x4⟩:=hd i w hw
   have hnx:=take_next hw
   have hw1 : 1 + (w - 1) = w:=by omega
   refine go1 trivial ?_
   refine UcR [1000000] @hw1 (x2) (go1 @hw1 ?_)
   refine ⟨by omega,trivial,Wk.list [1000000,2000018] rfl rfl ?_⟩
   repeat' (first|(conv in hold _=>simp (disch:=omega) only [go_sem,hw1,x1])|exact trivial|exact Sub.refl _|omega)
   refine ⟨congrArg (fun n=>D.v (Value.int .i64 n)) (by omega),?_⟩
   rw [hmt,hnx,List.map_append]
   rfl
  ·obtain rfl : i = 2 + m:=by omega
   have e1 : ws.take (2 + m) = ws:=List.take_of_length_le (by omega)
   have e2 : (ws.map I).take (2 + m) = ws.map I:=List.take_of_length_le (by rw [List.length_map]; omega)
   have hl2 : ws.length = 2 + m:=hl
   rw [hl2]
   refine go1 @e1 ?_
   refine fin_L [1000000,1000001] ?_ ?_ rfl ?_
   repeat' (first|(conv in hold _=>simp (disch:=omega) only [go_sem,e1,e2])|exact trivial|exact Sub.refl _|omega)
   all_goals (try rw [e2])
theorem randomPlan_own {bs : List Nat} (hs : Src bs) {ws : List Int} (hw : wsOk ws) (p : Nat) (hp : p < 100000000) : ∃ (x : Pl) (q : Nat),Does Tryz.prog 120 [rdD bs p,wrD ws] [.ref 1000000 0,.own 1000001 1 ws.length] (rootD 1000002 1000003 x) [rdD bs q,wrD ws,esR x,csR x] ∧ p ≤ q ∧ q ≤ p + 21000 ∧ psz x ≤ 11000 ∧ rb x ≤ 60 ∧ (x.k = 6 → x.es = []):=by
 obtain ⟨k,hk,k0,k1,_⟩:=pick_ok hs p (by omega) 4 (by omega)
 have hk1:=k1 (by omega)
 obtain ⟨m,rfl⟩:=Int.eq_ofNat_of_zero_le k0
 obtain ⟨x,q,j',u',⟨hD,hO⟩,hq0,hq1,hz,_,_,hrb,h66⟩:=plan_any hs hw (m + 1) (p + 1) (by omega) (by omega)
 have hm1 : ((m + 1 : Nat) : Int) = 1 + (m : Int):=by omega
 unfold DPlan at hD
 unfold OPlan at hO
 rw [hm1] at hD hO
 have hg : gnD ws 1 1 = .obj [.ref 1000001 0,.own 1000002 1 ws.length,I 1,I 1]:=rfl
 rw [hg] at hD hO
 obtain ⟨kk,hkk,_⟩:=pick_ok hs q (by omega) 2 (by omega)
 by_cases hkk0 : kk = 0
 ·subst hkk0
  obtain ⟨n,hn,hwx⟩:=wid_of hw x (by omega)
  obtain ⟨e,q2,hce,he0,he1,hez⟩:=randomCondition_ok hs n (by omega) (q + 1) (by omega)
  have hf:=filterOf_own e x
  have hfz : psz (.mk 2 0 [e] [] [x]) = esz e + 0 + (1 + psz x):=by rw [psz_one,eszL_1]; rfl
  refine ⟨.mk 2 0 [e] [] [x],q2,?_,by omega,by omega,by omega,by rw [rb_1 (q:=x) rfl]; exact Nat.le_trans hrb (cap_60 _ _),fun h=>absurd h (by decide : ¬ (2 : Int) = 6)⟩
  refine Bk c_Z83 mixed 2 (go1 trivial ?_)
  refine UcR [1000000] trivial (hk) (go1 trivial ?_)
  refine UcR [2000010,1000000,1000001] trivial (hD) (go1 trivial ?_)
  refine UcR [1000000] trivial (hkk) (go1 trivial ?_)
  refine UcR [1000001] trivial (hwx) (go1 trivial ?_)
  refine UcR [1000000] trivial (hce) (go1 trivial ?_)
  refine UcR [3000001,3000002] trivial (hf) (go1 trivial ?_)
  refine fin_L [1000000,1000001,3000001,3000002] ?_ ?_ rfl ?_
  all_goals exact Ag trivial
 ·refine ⟨x,q + 1,?_,by omega,by omega,by omega,Nat.le_trans hrb (cap_60 _ _),h66⟩
  refine Bk c_Z83 mixed 2 (go1 trivial ?_)
  refine UcR [1000000] trivial (hk) (go1 trivial ?_)
  refine UcR [2000010,1000000,1000001,3000001,3000002] trivial (hO) (go1 trivial ?_)
  refine UcR [1000000] trivial (hkk) (go1 trivial ?_)
  refine fin_L [1000000,1000001,3000001,3000002] ?_ ?_ rfl ?_
  all_goals exact Ag trivial
end Go.Proofs.YtgpdmgaemhelgaaGreat
set_option maxHeartbeats 4000000
set_option maxRecDepth 100000
set_option linter.unusedVariables false
set_option linter.unusedSimpArgs false
namespace Go.Proofs.YtgpdmgaemhelgaaGreat
open Go.RowKit
def mvE (mv : Int → Int) (e : E) : E:=if e.k = 1 then .mk e.k (mv e.c) e.v e.ks else e
theorem mvE_col {mv : Int → Int} {e : E} (h : e.k = 1) : mvE mv e = .mk e.k (mv e.c) e.v e.ks:=if_pos h
theorem mvE_no {mv : Int → Int} {e : E} (h : ¬ e.k = 1) : mvE mv e = e:=if_neg h
theorem sub_mv {bs : List E} {n : Int} {mv : Int → Int} {P : Nat → Prop} (h : ∀ c : Nat,(c : Int) < n → P c → bs[c]? = some (.mk 1 (mv c) ⟨false,0⟩ [])) : ∀ (e : E) (d : Nat),eOk e n d → (∀ c,occ e c = true → P c) → subE bs e = rwE (mvE mv) e:=by
 refine E.ind (fun e ih d he hP=>?_)
 have h0:=(eOk_iff e _ d).1 he
 have hl:=h0.2.2.2
 rw [rwE_eq]
 by_cases hk : e.k = 1
 ·unfold leafOk at hl
  rw [if_pos hk] at hl
  obtain ⟨c0,c1,v1,v2⟩:=hl
  have hks : e.ks = []:=by
   have:=h0.1
   rw [kidsN_leaf (.inl hk)] at this
   exact List.length_eq_zero_iff.1 (by omega)
  have hc : ((e.c.toNat : Nat) : Int) = e.c:=Int.toNat_of_nonneg c0
  have ho : occ e e.c.toNat = true:=by
   rw [occ_eq,hc,hk]
   simp
  rw [subE_col hk (h e.c.toNat (by omega) (hP _ ho)),hks,rwL,mvE_col (by exact hk),hc]
  obtain ⟨k,c,v,ks⟩:=e
  obtain ⟨vb,vn⟩:=v
  simp only [E.k_mk,E.c_mk,E.v_mk,E.ks_mk] at *
  subst hk v1 v2
  rfl
 ·rw [subE_no hk,mvE_no (by exact hk),subL_map,rwL_map]
  congr 1
  exact List.map_congr_left (fun x hx=>ih x hx (d - 1) (h0.2.2.1 x hx) (fun c hc=>hP c (occ_kid hx hc)))
theorem occ_lt {n : Int} : ∀ (e : E) (d : Nat),eOk e n d → ∀ c : Nat,occ e c = true → (c : Int) < n:=by
 refine E.ind (fun e ih d he c hc=>?_)
 have h0:=(eOk_iff e _ d).1 he
 rw [occ_eq,Bool.or_eq_true] at hc
 rcases hc with hc | hc
 ·rw [Bool.and_eq_true,beq_iff_eq,beq_iff_eq] at hc
  have hl:=h0.2.2.2
  unfold leafOk at hl
  rw [if_pos hc.1] at hl
  omega
 ·obtain ⟨x,hx,hxc⟩ : ∃ x,x ∈ e.ks ∧ occ x c = true:=by
   have : ∀ l : List E,occL l c = true → ∃ x,x ∈ l ∧ occ x c = true:=by
    intro l
    induction l with
    | nil=>intro h; exact absurd h (by rw [occL]; decide)
    | cons a l ih2=>
     intro h
     rw [occL,Bool.or_eq_true] at h
     rcases h with h | h
     ·exact ⟨a,List.mem_cons_self ..,h⟩
     ·obtain ⟨x,hx,h2⟩:=ih2 h
      exact ⟨x,List.mem_cons_of_mem _ hx,h2⟩
   exact this e.ks hc
  exact ih x hx (d - 1) (h0.2.2.1 x hx) c hxc
theorem mem_marked {u : Nat → Bool} {c n : Nat} : c ∈ marked u n ↔ c < n ∧ u c = true:=by
 unfold marked
 rw [List.mem_filter,List.mem_range]
theorem eOk_widen {w w' : Int} (hw : w ≤ w') : ∀ (e : E) (d : Nat),eOk e w d → eOk e w' d:=by
 refine E.ind (fun e ih d he=>?_)
 have h0:=(eOk_iff e _ d).1 he
 refine (eOk_iff e _ d).2 ⟨h0.1,h0.2.1,fun x hx=>ih x hx (d - 1) (h0.2.2.1 x hx),?_⟩
 have hl:=h0.2.2.2
 unfold leafOk at hl ⊢
 split
 ·rename_i hk
  rw [if_pos hk] at hl
  exact ⟨hl.1,by omega,hl.2.2⟩
 ·rename_i hk
  rw [if_neg hk] at hl
  exact hl
theorem byR_get {a b : Int} (ha : 0 ≤ a) {c : Nat} (h1 : a ≤ (c : Int)) (h2 : (c : Int) < a + b) : (byR a b)[c]? = some (.mk 1 ((c : Int) - a) ⟨false,0⟩ []):=by
 unfold byR
 rw [List.getElem?_append_right (by rw [colF_len]; omega),colF_len,colF_get (by omega)]
 congr 2
 omega
theorem byB_get {a b : Int} (ha : 0 ≤ a) {c : Nat} (h2 : (c : Int) < a + b) : (byB a b)[c]? = some (.mk 1 (if (c : Int) < a then (c : Int) + b else (c : Int) - a) ⟨false,0⟩ []):=by
 unfold byB
 by_cases hc : (c : Int) < a
 ·rw [if_pos hc,List.getElem?_append_left (by rw [colF_len]; omega),colF_get (by omega)]
  congr 2
  omega
 ·rw [if_neg hc,List.getElem?_append_right (by rw [colF_len]; omega),colF_len,colF_get (by omega)]
  congr 2
  omega
theorem mod_mv {a b c : Int} (ha : 0 ≤ a) (hb : 0 ≤ b) (hc : 0 ≤ c) (h : c < a + b) : (c + b).tmod (a + b) = if c < a then c + b else c - a:=by
 rw [Int.tmod_eq_emod_of_nonneg (by omega)]
 by_cases h1 : c < a
 ·rw [if_pos h1]
  exact Int.emod_eq_of_lt (by omega) (by omega)
 ·rw [if_neg h1,show c + b = (c - a) + (a + b) by omega,Int.add_emod_right]
  exact Int.emod_eq_of_lt (by omega) (by omega)
theorem sub_right {a b : Int} (ha : 0 ≤ a) (hab : a + b ≤ 6) {e : E} {d : Nat} (he : eOk e (a + b) d) (hh : highC e a) : subE (byR a b) e = rwE (mvE fun c=>c - a) e:=by
 refine sub_mv (P:=fun c=>a ≤ (c : Int)) (fun c h1 h2=>byR_get ha h2 h1) e d he (fun c hc=>hh c (mem_marked.2 ⟨?_,hc⟩))
 have:=occ_lt e d he c hc
 omega
theorem sub_both {a b : Int} (ha : 0 ≤ a) (hb : 0 ≤ b) {e : E} {d : Nat} (he : eOk e (a + b) d) : subE (byB a b) e = rwE (mvE fun c=>(c + b).tmod (a + b)) e:=
 sub_mv (P:=fun _=>True) (fun c h1 _=>by rw [byB_get ha h1,mod_mv ha hb (by omega) h1]) e d he (fun _ _=>trivial)
/-! The columns of an expression stand in order. -/
theorem marked_asc (u : Nat → Bool) (n : Nat) : (marked u n).Pairwise (· < ·):=by
 unfold marked
 exact List.Pairwise.filter _ List.pairwise_lt_range
theorem asc_first {a : Nat} {l : List Nat} (h : (a :: l).Pairwise (· < ·)) : ∀ c,c ∈ a :: l → a ≤ c:=by
 intro c hc
 rcases List.mem_cons.1 hc with rfl | hc
 ·exact Nat.le_refl _
 ·exact Nat.le_of_lt ((List.pairwise_cons.1 h).1 c hc)
theorem asc_last : ∀ (l : List Nat),l.Pairwise (· < ·) → ∀ (z : Nat),l[l.length - 1]? = some z → ∀ c,c ∈ l → c ≤ z
 | [],_,_,_,c,hc=>by cases hc
 | [a],_,z,hz,c,hc=>by
  obtain rfl : a = z:=by simpa using hz
  obtain rfl:=List.mem_singleton.1 hc
  exact Nat.le_refl _
 | a :: b :: l,h,z,hz,c,hc=>by
  have h2:=(List.pairwise_cons.1 h).2
  have hz2 : (b :: l)[(b :: l).length - 1]? = some z:=by
   have e1 : (a :: b :: l).length - 1 = ((b :: l).length - 1) + 1:=by simp
   rw [e1,List.getElem?_cons_succ] at hz
   exact hz
  have ih:=asc_last (b :: l) h2 z hz2
  rcases List.mem_cons.1 hc with rfl | hc
  ·have:=(List.pairwise_cons.1 h).1 b (List.mem_cons_self ..)
   have:=ih b (List.mem_cons_self ..)
   omega
  ·exact ih c hc
end Go.Proofs.YtgpdmgaemhelgaaGreat
set_option maxHeartbeats 4000000
set_option maxRecDepth 100000
set_option linter.unusedVariables false
set_option linter.unusedSimpArgs false
namespace Go.Proofs.YtgpdmgaemhelgaaGreat
open Go.RowKit
theorem scn_k {u k t : Int} {es : List E} {cs : List Int} {ks : List Pl} (hk : k ≠ 1) : scn u (.mk k t es cs ks) = ks.any (scn u):=by
 rw [scn_eq,if_neg (show ¬ (Pl.mk k t es cs ks).k = 1 from hk)]
 rfl
theorem scn_1k {u k t : Int} {es : List E} {cs : List Int} {q : Pl} (hk : k ≠ 1) : scn u (.mk k t es cs [q]) = scn u q:=by
 rw [scn_k hk]
 simp
theorem scn_2k {u k t : Int} {es : List E} {cs : List Int} {q r : Pl} (hk : k ≠ 1) : scn u (.mk k t es cs [q,r]) = (scn u q || scn u r):=by
 rw [scn_k hk]
 simp
theorem any_set {α : Type} (f : α → Bool) {x y : α} (h : f y = f x) : ∀ (l : List α) (i : Nat),l[i]? = some x → (l.set i y).any f = l.any f
 | [],i,hi=>by simp at hi
 | a :: l,0,hi=>by
  obtain rfl : a = x:=by simpa using hi
  rw [List.set_cons_zero,List.any_cons,List.any_cons,h]
 | a :: l,i + 1,hi=>by
  rw [List.set_cons_succ,List.any_cons,List.any_cons,any_set f h l i (by simpa using hi)]
theorem scn_rep {u : Int} {q : Pl} : ∀ (l : List Int) {p a : Pl},paOf p l = some a → scn u q = scn u a → scn u (repP p l q) = scn u p:=by
 intro l
 induction l with
 | nil=>
  intro p a ha h
  obtain rfl : p = a:=by simpa [paOf] using ha
  exact h
 | cons i l ih=>
  intro p a ha h
  rw [paOf] at ha
  cases hk : kidAt p i with
  | none=>rw [hk] at ha; cases ha
  | some x=>
   rw [hk] at ha
   obtain ⟨_,_,hx⟩:=kidAt_some hk
   have h1:=ih (show paOf x l = some a from ha) h
   have h2 : p.ks.getD i.toNat zP = x:=by rw [List.getD_eq_getElem?_getD,hx]; rfl
   rw [rep_cons,h2,scn_eq,scn_eq u p]
   show (if p.k = 1 then p.t == u else (p.ks.set i.toNat (repP x l q)).any (scn u)) = _
   rw [any_set (scn u) h1 p.ks i.toNat hx]
theorem scn_keep {ws : List Int} {p q : Pl} {r : Int} {d : Nat} {w : Int} (h : Wf ws p d w) (hr : ruP ws r p = some q) (u : Int) : scn u q = scn u p:=by
 unfold ruP at hr
 split at hr
 ·unfold ru1 at hr
  split at hr
  ·rename_i hk
   obtain ⟨e,k,f,rfl,rfl,h1,_⟩:=wf_2 h hk.1
   obtain ⟨e',k',f',rfl,rfl,h2,_⟩:=wf_2 h1 hk.2
   cases hr
   simp only [fiP,eOf_mk,kOf_mk,scn_1k (show (2 : Int) ≠ 1 by decide)]
  ·cases hr
 split at hr
 ·unfold ru2 at hr
  split at hr
  ·rename_i hk
   obtain ⟨e,k,f,rfl,rfl,h1,_⟩:=wf_2 h hk.1
   cases hr
   simp only [fiP,eOf_mk,kOf_mk,scn_1k (show (2 : Int) ≠ 1 by decide)]
  ·cases hr
 split at hr
 ·unfold ru3 at hr
  split at hr
  ·rename_i hk
   obtain ⟨e,k,f,rfl,rfl,h1,_⟩:=wf_2 h hk.1
   have hk2:=hk.2.1
   rw [kOf_mk] at hk2
   obtain ⟨e',x,y,g,a,b,hp,rfl,rfl,h2,h3,_,_⟩:=wf_45 h1 hk2
   generalize k.k = kk at *
   subst hp
   cases hr
   have hk1 : kk ≠ 1:=by omega
   simp only [fiP,eOf_mk,kOf_mk,lOf_mk,Pl.k,scn_1k (show (2 : Int) ≠ 1 by decide),scn_2k hk1]
  ·cases hr
 split at hr
 ·unfold ru4 at hr
  split at hr
  ·rename_i hk
   obtain ⟨e,k,f,rfl,rfl,h1,_⟩:=wf_2 h hk.1
   have hk2:=hk.2.1
   rw [kOf_mk] at hk2
   obtain ⟨e',x,y,g,a,b,hp,rfl,rfl,h2,h3,_,_⟩:=wf_45 h1 (.inl hk2)
   generalize k.k = kk at *
   subst hp
   cases hr
   have hk1 : kk ≠ 1:=by omega
   simp only [fiP,eOf_mk,kOf_mk,lOf_mk,Pl.k,scn_1k (show (2 : Int) ≠ 1 by decide),scn_2k hk1,scn_2k (show (4 : Int) ≠ 1 by decide)]
  ·cases hr
 split at hr
 ·unfold ru5 at hr
  split at hr
  ·rename_i hk
   obtain ⟨e,k,f,rfl,rfl,h1,_⟩:=wf_2 h hk.1
   have hk2:=hk.2
   rw [kOf_mk] at hk2
   obtain ⟨e',x,y,g,a,b,hp,rfl,rfl,h2,h3,_,_⟩:=wf_45 h1 (.inl hk2)
   generalize k.k = kk at *
   subst hp
   cases hr
   have hk1 : kk ≠ 1:=by omega
   simp only [fiP,eOf_mk,kOf_mk,lOf_mk,Pl.k,Pl.ks,scn_1k (show (2 : Int) ≠ 1 by decide),scn_2k hk1,scn_2k (show (4 : Int) ≠ 1 by decide)]
  ·cases hr
 split at hr
 ·unfold ru6 at hr
  split at hr
  ·rename_i hk
   obtain ⟨e',x,y,g,a,b,hp,rfl,rfl,h2,h3,_,_⟩:=wf_45 h (.inl hk)
   generalize p.k = kk at *
   subst hp
   cases hr
   have hk1 : kk ≠ 1:=by omega
   simp only [prP,eOf_mk,kOf_mk,lOf_mk,Pl.k,Pl.ks,scn_1k (show (3 : Int) ≠ 1 by decide),scn_2k hk1,scn_2k (show (4 : Int) ≠ 1 by decide)]
   exact Bool.or_comm _ _
  ·cases hr
 split at hr
 ·unfold ru7 at hr
  split at hr
  ·rename_i hk
   obtain ⟨e,k,f,rfl,rfl,h1,_⟩:=wf_2 h hk.1
   have hk2:=hk.2.1
   rw [kOf_mk] at hk2
   obtain ⟨e',x,y,g,a,b,hp,rfl,rfl,h2,h3,_,_⟩:=wf_45 h1 (.inr hk2)
   generalize k.k = kk at *
   subst hp
   cases hr
   have hk1 : kk ≠ 1:=by omega
   simp only [fiP,eOf_mk,kOf_mk,lOf_mk,Pl.k,Pl.ks,scn_1k (show (2 : Int) ≠ 1 by decide),scn_2k hk1,scn_2k (show (4 : Int) ≠ 1 by decide)]
  ·cases hr
 split at hr
 ·unfold ru8 at hr
  split at hr
  ·rename_i hk
   obtain ⟨e,k,f,rfl,rfl,h1,_⟩:=wf_2 h hk.1
   have hk2:=hk.2
   rw [kOf_mk] at hk2
   obtain ⟨x,y,g,rfl,rfl,h2,h3⟩:=wf_6 h1 hk2
   cases hr
   simp only [fiP,eOf_mk,kOf_mk,lOf_mk,Pl.k,Pl.ks,scn_1k (show (2 : Int) ≠ 1 by decide),scn_2k (show (6 : Int) ≠ 1 by decide)]
  ·cases hr
 split at hr
 ·unfold ru9 at hr
  split at hr
  ·rename_i hk
   obtain ⟨k,f,rfl,rfl,h1⟩:=wf_7 h hk.1
   cases hr
   rw [kOf_mk,scn_1k (by decide)]
  ·cases hr
 split at hr
 ·unfold ru10 at hr
  split at hr
  ·rename_i hk
   obtain ⟨e,k,f,rfl,rfl,h1,_⟩:=wf_2 h hk.1
   obtain ⟨es,x,g,u,rfl,rfl,rfl,h2,_,_⟩:=wf_3 h1 hk.2
   cases hr
   simp only [fiP,eOf_mk,kOf_mk,lOf_mk,Pl.k,Pl.ks,scn_1k (show (2 : Int) ≠ 1 by decide),scn_1k (show (3 : Int) ≠ 1 by decide)]
  ·cases hr
 split at hr
 ·unfold ru11 at hr
  split at hr
  ·rename_i hk
   obtain ⟨es,k,f,u,rfl,rfl,rfl,h1,_,_⟩:=wf_3 h hk.1
   obtain ⟨fs,x,g,v,rfl,rfl,rfl,h2,_,_⟩:=wf_3 h1 hk.2
   cases hr
   simp only [fiP,eOf_mk,kOf_mk,lOf_mk,Pl.k,Pl.ks,scn_1k (show (2 : Int) ≠ 1 by decide),scn_1k (show (3 : Int) ≠ 1 by decide)]
  ·cases hr
 cases hr
noncomputable def apP (ws : List Int) (r : Int) (l : List Int) (p : Pl) : Option Pl:=
 (paOf p l).bind fun a=>(ruP ws r a).bind fun q=>if wdV ws (repP p l q) 8 = 0 then none else some (repP p l q)
theorem apP_some {ws : List Int} (hw : wsOk ws) {r : Int} {l : List Int} {p x : Pl} {w : Int} (h : Wf ws p 8 w) (hx : apP ws r l p = some x) : Wf ws x 8 w ∧ ∀ u,scn u x = scn u p:=by
 unfold apP at hx
 cases ha : paOf p l with
 | none=>rw [ha] at hx; cases hx
 | some a=>
  rw [ha] at hx
  cases hq : ruP ws r a with
  | none=>rw [Option.bind_some,hq] at hx; cases hx
  | some q=>
   rw [Option.bind_some,hq,Option.bind_some] at hx
   split at hx
   ·cases hx
   ·rename_i hne
    cases hx
    obtain ⟨u,e,hd,hu,h1,h2⟩:=rep_wf hw l h ha
    have h3:=wf_of _ _ hne
    obtain ⟨u',h4⟩:=h2 q _ h3
    have h5:=keeps hw hu (by omega) h4 hq
    subst h5
    exact ⟨h1 q h4,fun t=>scn_rep l ha (scn_keep hu hq t)⟩
theorem apP_part {ws : List Int} (hw : wsOk ws) {r : Int} {l : List Int} {p a q : Pl} {w : Int} (h : Wf ws p 8 w) (ha : paOf p l = some a) (hq : ruP ws r a = some q) : l.length ≤ 8 ∧ (wdV ws q (8 - l.length) = 0 ↔ wdV ws (repP p l q) 8 = 0):=by
 obtain ⟨u,e,hd,hu,h1,h2⟩:=rep_wf hw l h ha
 have he : 8 - l.length = e:=by omega
 rw [he]
 refine ⟨by omega,fun h0=>Classical.byContradiction fun hne=>?_,fun h0=>Classical.byContradiction fun hne=>?_⟩
 ·obtain ⟨u',h4⟩:=h2 q _ (wf_of _ _ hne)
  have:=wf_to hw h4
  omega
 ·have h3:=wf_of _ _ hne
  have h5:=keeps hw hu (by omega) h3 hq
  rw [h5] at h3
  have:=wf_to hw (h1 q h3)
  omega
end Go.Proofs.YtgpdmgaemhelgaaGreat
set_option maxHeartbeats 4000000
set_option maxRecDepth 100000
set_option linter.unusedVariables false
set_option linter.unusedSimpArgs false
namespace Go.Proofs.YtgpdmgaemhelgaaGreat
open Go.RowKit
theorem es_pur (es : List E) : D.purL (es.map eD) = true:=exprs_pur es
theorem take_allL {α : Type} (f : α → D) (l : List α) {n : Nat} (h : n = l.length) : (l.map f).take n = l.map f:=List.take_of_length_le (by rw [List.length_map]; omega)
theorem rb_kind {x : Pl} {v : Int} (hv : v ∈ [(0 : Int),9,1,4]) (h : rb x ≤ 60) (h6 : x.k = 6 → x.es = []) (hf : fields (.mk v x.t x.es x.cs x.ks)) : rb (.mk v x.t x.es x.cs x.ks) ≤ 60:=by
 rw [rb_eq] at h ⊢
 show rbF v (rbL x.ks) ≤ 60
 obtain ⟨f1,f2,_,_,f5,_⟩:=hf
 change 1 ≤ v ∧ v ≤ 8 at f1
 change v = 1 → x.ks.length = 0 at f2
 change v = 2 ∨ v = 4 ∨ v = 5 → x.es.length = 1 at f5
 simp only [List.mem_cons,List.not_mem_nil,or_false] at hv
 rcases hv with rfl | rfl | rfl | rfl
 ·omega
 ·omega
 ·rw [List.length_eq_zero_iff.1 (f2 rfl)]
  decide
 ·have hk : x.k ≠ 6:=fun hk=>by
   have:=f5 (Or.inr (Or.inl rfl))
   rw [h6 hk] at this
   cases this
  generalize rbL x.ks = l at h ⊢
  match l with
  | []=>decide
  | [a]=>exact h
  | a :: b :: _=>
   have h' : (if x.k = 6 then a + b else a * (b + 1)) ≤ 60:=h
   rw [if_neg hk] at h'
   show (if (4 : Int) = 6 then a + b else a * (b + 1)) ≤ 60
   rw [if_neg (by decide)]
   exact h'
theorem anyPlan_ok {bs : List Nat} (hs : Src bs) {ws : List Int} (hw : wsOk ws) (p : Nat) (hp : p < 90000000) : ∃ (x : Pl) (q : Nat),Does Tryz.prog 81 [rdD bs p,wrD ws] [.ref 1000000 0,.own 1000001 1 ws.length] (pD x) [rdD bs q,wrD ws] ∧ p ≤ q ∧ q ≤ p + 23000 ∧ psz x ≤ 11100 ∧ (fields x → rb x ≤ 60):=by
 obtain ⟨x,q,hx,hq0,hq1,hz,hrb,h66⟩:=randomPlan_own hs hw p (by omega)
 obtain ⟨k,hk,k0,k1,_⟩:=pick_ok hs q (by omega) 18 (by omega)
 have t1:=take_allL eD x.es rfl
 have t2:=take_allL I x.cs rfl
 rw [psz_eq] at hz
 by_cases hk0 : k = 0
 ·obtain ⟨v,hv,hvm⟩:=one_ok hs (q + 1) (by omega) [0,9,1,4] (by decide) (by decide)
  refine ⟨.mk v x.t x.es x.cs x.ks,q + 2,?_,by omega,by omega,by rw [psz_eq]; exact Nat.le_trans hz (by omega),fun hf=>rb_kind hvm hrb h66 hf⟩
  refine Bk c_Z134 mixed 2 (go1F trivial ?_)
  refine UcR [1000000,1000001,3000001,3000002] trivial (hx) (go1F trivial ?_)
  refine UcR [1000000] trivial (hk) (go1F trivial ?_)
  refine UcR [1000000] trivial (hv) (go1F trivial ?_)
  refine fin_wk (wk_frzO 2000004 3000001 (by decide) (by decide) rfl (by decide) rfl ?_) ?_
  rotate_left
  (conv in hold _=>simp (disch:=omega) only [go_sem,t1,Nat.le_refl])
  refine fin_wk (wk_frzO 2000004 3000002 (by decide) (by decide) rfl (by decide) rfl ?_) ?_
  rotate_left
  (conv in hold _=>simp (disch:=omega) only [go_sem,t2,Nat.le_refl])
  all_goals first
   | exact es_pur _
   | exact ints_pur _
   | skip
  refine fin_L [1000000,1000001] ?_ ?_ rfl ?_
  all_goals exact Ag trivial
 by_cases hk1 : k = 1
 ·obtain ⟨v,hv,_⟩:=one_ok hs (q + 1) (by omega) [-1,4,1] (by decide) (by decide)
  refine ⟨.mk x.k v x.es x.cs x.ks,q + 2,?_,by omega,by omega,by rw [psz_eq]; exact Nat.le_trans hz (by omega),fun _=>by rw [rb_eq] at hrb ⊢; exact hrb⟩
  refine Bk c_Z134 mixed 2 (go1F trivial ?_)
  refine UcR [1000000,1000001,3000001,3000002] trivial (hx) (go1F trivial ?_)
  refine UcR [1000000] trivial (hk) (go1F trivial ?_)
  refine UcR [1000000] trivial (hv) (go1F trivial ?_)
  refine fin_wk (wk_frzO 2000004 3000001 (by decide) (by decide) rfl (by decide) rfl ?_) ?_
  rotate_left
  (conv in hold _=>simp (disch:=omega) only [go_sem,t1,Nat.le_refl])
  refine fin_wk (wk_frzO 2000004 3000002 (by decide) (by decide) rfl (by decide) rfl ?_) ?_
  rotate_left
  (conv in hold _=>simp (disch:=omega) only [go_sem,t2,Nat.le_refl])
  all_goals first
   | exact es_pur _
   | exact ints_pur _
   | skip
  refine fin_L [1000000,1000001] ?_ ?_ rfl ?_
  all_goals exact Ag trivial
 by_cases hk2 : k = 2
 ·obtain ⟨v,hv,_⟩:=one_ok hs (q + 1) (by omega) [0,9] (by decide) (by decide)
  have t4 : (x.cs.map I ++ [I v]) = (x.cs ++ [v]).map I:=by rw [List.map_append]; rfl
  have t5 : ((x.cs ++ [v]).map I).take (x.cs.length + 1) = (x.cs ++ [v]).map I:=take_allL I _ (by rw [List.length_append]; rfl)
  refine ⟨.mk x.k x.t x.es (x.cs ++ [v]) x.ks,q + 2,?_,by omega,by omega,?_,fun _=>by rw [rb_eq] at hrb ⊢; exact hrb⟩
  ·refine Bk c_Z134 mixed 2 (go1F trivial ?_)
   refine UcR [1000000,1000001,3000001,3000002] trivial (hx) (go1F trivial ?_)
   refine UcR [1000000] trivial (hk) (go1F trivial ?_)
   refine UcR [1000000] @t2 (hv) (go1F @t2 ?_)
   refine fin_wk (wk_frzO 2000004 3000001 (by decide) (by decide) rfl (by decide) rfl ?_) ?_
   rotate_left
   (conv in hold _=>simp (disch:=omega) only [go_sem,t1,Nat.le_refl])
   refine fin_wk (wk_frzO 2000004 2000031 (by decide) (by decide) rfl (by decide) rfl ?_) ?_
   rotate_left
   (conv in hold _=>simp (disch:=omega) only [go_sem,t2,t4,t5,Nat.le_refl])
   all_goals first
    | exact es_pur _
    | exact ints_pur _
    | (show D.purL (x.cs.map I ++ [I v]) = true; rw [t4]; exact ints_pur _)
    | skip
   refine fin_L [1000000,1000001] ?_ ?_ rfl ?_
   all_goals exact Ag trivial
  ·rw [psz_eq]
   show eszL x.es + (x.cs ++ [v]).length + pszL x.ks ≤ _
   rw [List.length_append,List.length_singleton]
   omega
 by_cases hk3 : k = 3
 ·have hel:=eszL_len x.es
  obtain ⟨e,q2,hae,he0,he1,hez⟩:=anyExpr_ok hs 2 (by omega) (q + 1) (by omega)
  have t4 : (x.es.map eD ++ [.agg [I e.k,I e.c,Bo e.v.b,I e.v.n,.sl 5 (e.ks.map eD)]]) = (x.es ++ [e]).map eD:=by rw [← eD_eq,List.map_append]; rfl
  have t5 : ((x.es ++ [e]).map eD).take (x.es.length + 1) = (x.es ++ [e]).map eD:=take_allL eD _ (by rw [List.length_append]; rfl)
  refine ⟨.mk x.k x.t (x.es ++ [e]) x.cs x.ks,q2,?_,by omega,by omega,?_,fun _=>by rw [rb_eq] at hrb ⊢; exact hrb⟩
  ·refine Bk c_Z134 mixed 2 (go1F trivial ?_)
   refine UcR [1000000,1000001,3000001,3000002] trivial (hx) (go1F trivial ?_)
   refine UcR [1000000] trivial (hk) (go1F trivial ?_)
   refine UcR [1000000] @t1 (hae) (go1F @t1 ?_)
   refine fin_wk (wk_frzO 2000004 2000040 (by decide) (by decide) rfl (by decide) rfl ?_) ?_
   rotate_left
   (conv in hold _=>simp (disch:=omega) only [go_sem,t1,t4,t5,Nat.le_refl])
   refine fin_wk (wk_frzO 2000004 3000002 (by decide) (by decide) rfl (by decide) rfl ?_) ?_
   rotate_left
   (conv in hold _=>simp (disch:=omega) only [go_sem,t2,Nat.le_refl])
   all_goals first
    | exact es_pur _
    | exact ints_pur _
    | (rw [t4]; exact es_pur _)
    | skip
   refine fin_L [1000000,1000001] ?_ ?_ rfl ?_
   all_goals exact Ag trivial
  ·rw [psz_eq]
   show eszL (x.es ++ [e]) + x.cs.length + pszL x.ks ≤ _
   rw [eszL_append,eszL_1]
   omega
 ·refine ⟨x,q + 1,?_,by omega,by omega,by rw [psz_eq]; omega,fun _=>hrb⟩
  refine Bk c_Z134 mixed 2 (go1F trivial ?_)
  refine UcR [1000000,1000001,3000001,3000002] trivial (hx) (go1F trivial ?_)
  refine UcR [1000000] trivial (hk) (go1F trivial ?_)
  refine fin_wk (wk_frzO 2000004 3000001 (by decide) (by decide) rfl (by decide) rfl ?_) ?_
  rotate_left
  (conv in hold _=>simp (disch:=omega) only [go_sem,t1,Nat.le_refl])
  refine fin_wk (wk_frzO 2000004 3000002 (by decide) (by decide) rfl (by decide) rfl ?_) ?_
  rotate_left
  (conv in hold _=>simp (disch:=omega) only [go_sem,t2,Nat.le_refl])
  all_goals first
   | exact es_pur _
   | exact ints_pur _
   | skip
  refine fin_L [1000000,1000001] ?_ ?_ rfl ?_
  all_goals exact Ag trivial
theorem planAndWidths_ok {bs : List Nat} (hs : Src bs) (p : Nat) (hp : p < 80000000) : ∃ (x : Pl) (ws : List Int) (q : Nat),Does Tryz.prog 49 [rdD bs p] [.ref 1000000 0] (.tup [pD x,intsD ws]) [rdD bs q] ∧ (2 ≤ ws.length ∧ ws.length ≤ 3) ∧ (∀ (i : Nat) (w : Int),ws[i]? = some w → 0 ≤ w ∧ w ≤ 7) ∧ psz x ≤ 11100 ∧ p ≤ q ∧ q ≤ p + 24000:=by
 obtain ⟨ws,q,⟨hw,hl,hr⟩,hq0,hq1⟩:=randomWidths_own hs p (by omega)
 have hwo : wsOk ws:=⟨by omega,fun i w h=>by have:=hr i w h; omega⟩
 obtain ⟨x,q2,hx,hx0,hx1,hz,_⟩:=anyPlan_ok hs hwo q (by omega)
 obtain ⟨k,hk,k0,k1,_⟩:=pick_ok hs q2 (by omega) 18 (by omega)
 by_cases hk0 : k = 0
 ·obtain ⟨v,hv,hm⟩:=one_ok hs (q2 + 1) (by omega) [0,7,1] (by decide) (by decide)
  simp only [List.mem_cons,List.not_mem_nil,or_false] at hm
  have hpos : (ws.map I)[0]? = some (I (ws[0]'(by omega))):=by
   rw [List.getElem?_map,List.getElem?_eq_getElem (by omega)]
   rfl
  have hsi : (ws.map I).set 0 (I v) = (ws.set 0 v).map I:=by rw [List.map_set]
  have t3 : ((ws.set 0 v).map I).take ws.length = (ws.set 0 v).map I:=take_allL I _ (by rw [List.length_set])
  refine ⟨x,ws.set 0 v,q2 + 2,?_,by rw [List.length_set]; exact hl,fun i w hi=>?_,hz,by omega,by omega⟩
  ·refine Bk c_Z33 mixed 1 (go1F trivial ?_)
   refine UcR [1000000,3000001] trivial (hw) (go1F trivial ?_)
   refine UcR [1000000,3000001] trivial (hx) (go1F trivial ?_)
   refine UcR [1000000] trivial (hk) (go1F trivial ?_)
   refine UcR [1000000] @hpos (hv) (go1F @hpos ?_)
   refine fin_wk (wk_frz 3 3000001 (by decide) (by decide) rfl ?_) ?_
   rotate_left
   (conv in hold _=>simp (disch:=omega) only [go_sem,hsi,t3,List.length_set,Nat.le_refl])
   ·refine fin_L [1000000] ?_ ?_ rfl ?_
    all_goals exact Ag trivial
   ·show D.purL ((ws.map I).set 0 (I v)) = true
    rw [hsi]
    exact ints_pur _
  ·rcases List.mem_or_eq_of_mem_set (List.mem_of_getElem? hi) with h | h
   ·obtain ⟨j,hj,he⟩:=List.getElem_of_mem h
    have:=hr j w (by rw [List.getElem?_eq_getElem hj,he])
    omega
   ·omega
 ·have t3:=take_allL I ws rfl
  refine ⟨x,ws,q2 + 1,?_,hl,fun i w hi=>by have:=hr i w hi; omega,hz,by omega,by omega⟩
  refine Bk c_Z33 mixed 1 (go1F trivial ?_)
  refine UcR [1000000,3000001] trivial (hw) (go1F trivial ?_)
  refine UcR [1000000,3000001] trivial (hx) (go1F trivial ?_)
  refine UcR [1000000] trivial (hk) (go1F trivial ?_)
  refine fin_wk (wk_frz 3 3000001 (by decide) (by decide) rfl ?_) ?_
  rotate_left
  (conv in hold _=>simp (disch:=omega) only [go_sem,t3,Nat.le_refl])
  ·refine fin_L [1000000] ?_ ?_ rfl ?_
   all_goals exact Ag trivial
  ·exact ints_pur _
end Go.Proofs.YtgpdmgaemhelgaaGreat
