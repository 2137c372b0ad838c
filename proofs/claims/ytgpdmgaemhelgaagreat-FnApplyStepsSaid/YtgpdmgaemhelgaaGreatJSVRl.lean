/-
  What the model's rules of rewriting are put together of. No condition.
-/
import Derived.Test.YtgpdmgaemhelgaaGreatKSDca
import Derived.Test.YtgpdmgaemhelgaaGreatKSDcd
import Derived.Test.YtgpdmgaemhelgaaGreatJSVPlanE
import Derived.Test.YtgpdmgaemhelgaaGreatJSVPlanO
import Derived.Test.YtgpdmgaemhelgaaGreatJSVCond
import Derived.Test.YtgpdmgaemhelgaaGreatJSVClQ
import Derived.Test.YtgpdmgaemhelgaaGreatJSVRej
import Derived.Test.YtgpdmgaemhelgaaGreatJSVCall
set_option maxHeartbeats 4000000
set_option maxRecDepth 100000
set_option linter.unusedVariables false
set_option linter.unusedSimpArgs false
namespace Go.Proofs.YtgpdmgaemhelgaaGreat
open Go.RowKit
def cD (c : Int) : D:=.agg [I 1,I c,Bo false,I 0,.nul]
def ciL (b : Int) (n : Nat) : List Int:=(List.range n).map fun i : Nat=>b + i
theorem ciL_len (b : Int) (n : Nat) : (ciL b n).length = n:=by unfold ciL; rw [List.length_map,List.length_range]
theorem ciL_get {b : Int} {n i : Nat} (h : i < n) : (ciL b n)[i]? = some (b + i):=by
 unfold ciL
 rw [List.getElem?_map,List.getElem?_range h]
 rfl
theorem colF_ci (b : Int) (n : Nat) : colF b n = (ciL b n).map (fun c=>E.mk 1 c ⟨false,0⟩ []):=by
 unfold colF ciL
 rw [List.map_map]
 rfl
theorem cD_sub (l : List Int) : Sub (.sl 5 (l.map cD)) (.sl 5 ((l.map (fun c=>E.mk 1 c ⟨false,0⟩ [])).map eD)):=by
 rw [List.map_map]
 refine Sub.slmap _ _ _ (fun a ha=>?_) (fun a ha=>?_)
 ·show (eD (E.mk 1 a ⟨false,0⟩ [])).cells.length = 5
  rw [eD_eq]; rfl
 ·show SubL (cD a).cells (eD (E.mk 1 a ⟨false,0⟩ [])).cells
  rw [eD_eC]
  exact leafC a
theorem cD_pur : ∀ l : List Int,D.purL (l.map cD) = true
 | []=>rfl
 | a :: l=>by rw [List.map_cons,D.purL,cD_pur l]; rfl
theorem cD_ren (L : List Nat) (l : List Int) : D.renL L (l.map cD) = l.map cD:=ren_pure.renL_pure L _ (cD_pur l)
attribute [go_sem] cD_pur cD_ren
theorem columnsFrom_own (b : Int) (n : Nat) (hb : 0 ≤ b ∧ b ≤ 1000) (hn : n ≤ 1000) : Does Tryz.prog 142 [] [I b,I n] (.own 1000000 5 n) [.row 5 ((ciL b n).map cD)]:=by
 have hcl:=ciL_len b n
 refine Bk c_Z64 mixed 0 (go1 trivial ?_)
 refine dw_for (c:=1) (l:=fun i=>[(0,I b),(1,I n),(5,.own 1000000 5 i),(6,I i),(1000000,.row 5 (((ciL b n).take i).map cD))]) n (fun _=>True) 0 trivial ((wk_row 5 2000090 5 (by decide) (by decide) rfl rfl).trans (Wk.list [2000090] rfl rfl ?_)) (fun i hi _=>?_) (Nat.zero_le _)
 ·repeat' (first|(conv in hold _=>simp (disch:=omega) only [go_sem])|exact trivial|exact Sub.refl _|omega)
  (repeat' apply And.intro) <;> rfl
 ·have htl : ((ciL b n).take i).length = i:=by rw [List.length_take]; omega
  have hmk:=take_map cD (vs:=ciL b n) (i:=i) (by omega)
  by_cases hil : i < n
  ·have hnx:=take_next (ciL_get (b:=b) hil)
   refine go1 trivial ?_
   refine ⟨hil,trivial,Wk.list [2000019] rfl rfl ?_⟩
   repeat' (first|(conv in hold _=>simp (disch:=omega) only [go_sem,List.length_map,htl])|exact trivial|exact Sub.refl _|omega)
   rw [hmk,hnx,List.map_append,List.map_cons,List.map_nil]
   rfl
  ·obtain rfl : i = n:=by omega
   have e1 : (ciL b i).take i = ciL b i:=List.take_of_length_le (by omega)
   rw [e1]
   refine go1 trivial ?_
   refine fin_L [1000000] ?_ ?_ rfl ?_
   repeat' (first|(conv in hold _=>simp (disch:=omega) only [go_sem])|exact trivial|exact Sub.refl _|omega)
theorem columnList_own (a b : Int) (ha : 0 ≤ a ∧ a ≤ 1000) (hb : 0 ≤ b ∧ b ≤ 1000) : Does Tryz.prog 175 [] [I a,I (a + b)] (.own 1000000 1 b.toNat) [.row 1 ((nulC a b).map I)]:=by
 have hcl : (nulC a b).length = b.toNat:=by unfold nulC; rw [List.length_map,List.length_range]
 have hget : ∀ i : Nat,i < b.toNat → (nulC a b)[i]? = some (a + (i : Int)):=fun i hi=>by
  unfold nulC
  rw [List.getElem?_map,List.getElem?_range hi]
  rfl
 refine Bk c_Z80 mixed 0 (go1 trivial ?_)
 refine dw_for (c:=1) (l:=fun i=>[(1,I (a + b)),(5,.own 1000000 1 i),(6,I (a + i)),(1000000,.row 1 (((nulC a b).take i).map I))]) b.toNat (fun _=>True) 0 trivial ((wk_row 5 2000090 1 (by decide) (by decide) rfl rfl).trans (Wk.list [2000090] rfl rfl ?_)) (fun i hi _=>?_) (Nat.zero_le _)
 ·repeat' (first|(conv in hold _=>simp (disch:=omega) only [go_sem])|exact trivial|exact Sub.refl _|omega)
  (repeat' apply And.intro) <;> first | rfl | exact congrArg (fun n=>D.v (Value.int .i64 n)) (by omega)
 ·have htl : ((nulC a b).take i).length = i:=by rw [List.length_take]; omega
  have hmk:=take_map I (vs:=nulC a b) (i:=i) (by omega)
  by_cases hil : i < b.toNat
  ·have hnx:=take_next (hget i hil)
   refine go1 trivial ?_
   refine ⟨hil,trivial,Wk.list [2000017] rfl rfl ?_⟩
   repeat' (first|(conv in hold _=>simp (disch:=omega) only [go_sem,List.length_map,htl])|exact trivial|exact Sub.refl _|omega)
   (repeat' apply And.intro) <;> first | rfl | exact congrArg (fun n=>D.v (Value.int .i64 n)) (by omega) | (rw [hmk,hnx,List.map_append]; rfl)
  ·obtain rfl : i = b.toNat:=by omega
   have e1 : (nulC a b).take b.toNat = nulC a b:=List.take_of_length_le (by omega)
   rw [e1]
   refine go1 trivial ?_
   refine fin_L [1000000] ?_ ?_ rfl ?_
   repeat' (first|(conv in hold _=>simp (disch:=omega) only [go_sem])|exact trivial|exact Sub.refl _|omega)
theorem within_ok (e : E) (h : eOk e 6 8) (lo hi : Int) : Does Tryz.prog 173 [] [eD e,I lo,I hi] (Bo (decide (∀ c,c ∈ marked (occ e) 6 → lo ≤ (c : Int) ∧ (c : Int) ≤ hi))) []:=by
 have hac : Does Tryz.prog 186 [] [.nul,eD e] (.sl 1 (colsL (occ e) 6)) []:=by
  have:=addColumns_ok e 8 h (fun _=>false)
  rw [show colsL (fun _=>false) 6 = [] from rfl,show (fun j=>false || occ e j) = occ e from funext fun j=>Bool.false_or _] at this
  exact this.weak ⟨Sub.nul 1,Sub.refl _,trivial⟩ (Sub.refl _)
 have hasc:=marked_asc (occ e) 6
 have hml:=marked_len (occ e) 6
 unfold colsL at hac
 generalize marked (occ e) 6 = l at *
 cases l with
 | nil=>
  rw [decide_eq_true (fun c hc=>by cases hc)]
  refine Bg c_Z149 mixed (go1 trivial ?_)
  exact Uc trivial (hac) (go0 trivial)
 | cons a l=>
  obtain ⟨z,hz⟩ : ∃ z,(a :: l)[(a :: l).length - 1]? = some z:=⟨_,List.getElem?_eq_getElem (by simp)⟩
  have hf:=asc_first hasc
  have hla:=asc_last _ hasc z hz
  have hzm:=List.mem_of_getElem? hz
  have hz2 : (((a :: l).map fun j : Nat=>I (j : Int))[l.length]?) = some (I z):=by
   rw [List.getElem?_map]
   have : (a :: l).length - 1 = l.length:=by simp
   rw [this] at hz
   rw [hz]
   rfl
  have hll : ((a :: l).map fun j : Nat=>I (j : Int)).length = l.length + 1:=by simp
  have hg0 : (((a :: l).map fun j : Nat=>I (j : Int))[0]?) = some (I a):=rfl
  have hiff : (∀ c,c ∈ a :: l → lo ≤ (c : Int) ∧ (c : Int) ≤ hi) ↔ lo ≤ (a : Int) ∧ (z : Int) ≤ hi:=by
   constructor
   ·intro h
    exact ⟨(h a (List.mem_cons_self ..)).1,(h z hzm).2⟩
   ·intro h c hc
    have h1:=hf c hc
    have h2:=hla c hc
    omega
  rw [decide_eq_decide.2 hiff]
  obtain ⟨ds,hds⟩ : ∃ ds,ds = (a :: l).map (fun j : Nat=>I (j : Int)):=⟨_,rfl⟩
  rw [← hds] at hac hz2 hll hg0
  clear hds
  have hl5 : l.length ≤ 5:=by simp at hml; omega
  by_cases h1 : lo ≤ (a : Int)
  ·refine Bg c_Z149 mixed (go1 trivial ?_)
   refine Uc (cj3 @hll @hg0 @hz2) (hac) (go1 (cj3 @hll @hg0 @hz2) ?_)
   all_goals exact sub_iff (by simp; omega)
  ·rw [decide_eq_false (fun h=>h1 h.1)]
   refine Bg c_Z149 mixed (go1 trivial ?_)
   exact Uc (cj3 @hll @hg0 @hz2) (hac) (go0 (cj3 @hll @hg0 @hz2))
theorem rejects_ok {e : E} {w : Nat} (hw : w ≤ 6) (ns : List Int) (hl : ns.length ≤ 1048576) (he : eOk e w 8) : Does Tryz.prog 174 [] [eD e,I w,intsD ns] (Bo (intBit .and .i64 (oc e (stL ns w)) 2 == 0)) []:=by
 have hsl:=stL_len ns w
 have h4:=nullStates_ok w (by omega) ns hl
 obtain ⟨_,hA,_⟩:=oc_ok (stL_ok ns w) (by kernel_rfl) (by kernel_rfl) e 8 (by rw [hsl]; exact he)
 generalize oc e (stL ns w) = n at *
 refine Bg c_Z141 mixed (go1 trivial ?_)
 refine Uc trivial (h4) (go1 trivial ?_)
 exact Uc trivial (hA) (go0 trivial)
theorem planW {ws : List Int} (hw : wsOk ws) {p : Pl} {d : Nat} {w : Int} (h : Wf ws p d w) (hd : d ≤ 8) : Does Tryz.prog 95 [] [pD p,intsD ws,I 8] (I w) [] ∧ wdV ws p 8 = w:=by
 have h8:=wf_mono hw h hd
 obtain ⟨h1,h2⟩:=wf_to hw h8
 have hs:=wf_size h8
 rw [pw_8] at hs
 obtain ⟨_,h3,_⟩:=width_loc hw p (loc_of p (by omega)) 8 (by decide)
 rw [h1] at h3
 exact ⟨h3,h1⟩
end Go.Proofs.YtgpdmgaemhelgaaGreat
set_option maxHeartbeats 4000000
set_option maxRecDepth 100000
set_option linter.unusedVariables false
set_option linter.unusedSimpArgs false
namespace Go.Proofs.YtgpdmgaemhelgaaGreat
open Go.RowKit
theorem wf_loc {ws : List Int} {p : Pl} {d : Nat} {w : Int} (h : Wf ws p d w) (hd : d ≤ 8) : Loc p:=by
 have h1:=wf_size h
 have h2:=pw_mono hd
 rw [pw_8] at h2
 exact loc_of p (by omega)
theorem esz_ok {e : E} {w : Int} (h : eOk e w 8) : esz e ≤ 511:=by
 have:=esz_small e 8 h (by decide)
 omega
theorem loc_1 {k : Int} {es : List E} {q : Pl} (hes : ∀ e,e ∈ es → esz e ≤ 800000) (hl : es.length ≤ 6) (hq : Loc q) : Loc (.mk k 0 es [] [q]):=
 .mk (by show es.length ≤ _; omega) (Nat.zero_le _) (by show 1 ≤ _; decide) hes (fun x hx=>by obtain rfl:=List.mem_singleton.1 hx; exact hq)
theorem loc_2 {k : Int} {es : List E} {q r : Pl} (hes : ∀ e,e ∈ es → esz e ≤ 800000) (hl : es.length ≤ 6) (hq : Loc q) (hr : Loc r) : Loc (.mk k 0 es [] [q,r]):=
 .mk (by show es.length ≤ _; omega) (Nat.zero_le _) (by show 2 ≤ _; decide) hes (fun x hx=>by
  rcases List.mem_cons.1 hx with rfl | hx
  ·exact hq
  ·obtain rfl:=List.mem_singleton.1 hx; exact hr)
theorem one_e {e : E} (h : esz e ≤ 800000) : ∀ x,x ∈ [e] → esz x ≤ 800000:=fun x hx=>by obtain rfl:=List.mem_singleton.1 hx; exact h
theorem esz_and {a b : E} {w w' : Int} (ha : eOk a w 8) (hb : eOk b w' 8) : esz (.mk 8 0 ⟨false,0⟩ [a,b]) ≤ 800000:=by
 have h1:=esz_ok ha
 have h2:=esz_ok hb
 rw [esz_eq,E.ks_mk,eszL,eszL,eszL]
 omega
theorem esz_sub {bs : List E} {e : E} {w : Int} (he : eOk e w 8) (hb : ∀ b,b ∈ bs → esz b ≤ 511) : esz (subE bs e) ≤ 800000:=by
 have h1:=esz_subE (M:=511) (by decide) hb e
 have h2:=Nat.mul_le_mul_right 511 (esz_ok he)
 omega
theorem esz_colF {b : Int} {n : Nat} {x : E} (h : x ∈ colF b n) : esz x = 1:=by
 obtain ⟨i,_,rfl⟩:=List.mem_map.1 h
 rw [esz_eq]; rfl
theorem esz_byR {a b : Int} {x : E} (h : x ∈ byR a b) : esz x = 1:=(List.mem_append.1 h).elim esz_colF esz_colF
theorem esz_byB {a b : Int} {x : E} (h : x ∈ byB a b) : esz x = 1:=(List.mem_append.1 h).elim esz_colF esz_colF
theorem ru_loc {ws : List Int} (hw : wsOk ws) {p q : Pl} {r : Int} {d : Nat} {w : Int} (h : Wf ws p d w) (hd : d ≤ 8) (hr : ruP ws r p = some q) : Loc q:=by
 unfold ruP at hr
 split at hr
 ·unfold ru1 at hr
  split at hr
  ·rename_i hk
   obtain ⟨e,k,f,rfl,rfl,h1,he⟩:=wf_2 h hk.1
   obtain ⟨e',k',f',rfl,rfl,h2,he'⟩:=wf_2 h1 hk.2
   cases hr
   simp only [fiP,andE,eOf_mk,kOf_mk]
   exact loc_1 (one_e (esz_and he' he)) (by simp) (wf_loc h2 (by omega))
  ·cases hr
 split at hr
 ·unfold ru2 at hr
  split at hr
  ·rename_i hk
   obtain ⟨e,k,f,rfl,rfl,h1,he⟩:=wf_2 h hk.1
   have hk2:=hk.2
   rw [eOf_mk] at hk2
   rcases eOk_kids he with ⟨h3,_⟩ | ⟨h3,_⟩ | ⟨_,a,b,hks,ha,hb⟩
   ·omega
   ·omega
   ·cases hr
    simp only [fiP,eOf_mk,kOf_mk,hks]
    have s1:=esz_small a _ ha (by decide)
    have s2:=esz_small b _ hb (by decide)
    exact loc_1 (one_e (by show esz b ≤ _; omega)) (by simp) (loc_1 (one_e (by show esz a ≤ _; omega)) (by simp) (wf_loc h1 (by omega)))
  ·cases hr
 split at hr
 ·unfold ru3 at hr
  split at hr
  ·rename_i hk
   obtain ⟨e,k,f,rfl,rfl,h1,he⟩:=wf_2 h hk.1
   have hk2:=hk.2.1
   rw [kOf_mk] at hk2
   obtain ⟨e',x,y,g,a,b,hp,rfl,rfl,h2,h3,_,he'⟩:=wf_45 h1 hk2
   generalize k.k = kk at *
   subst hp
   cases hr
   simp only [fiP,eOf_mk,kOf_mk,lOf_mk,Pl.k,Pl.es]
   exact loc_2 (one_e (by have:=esz_ok he'; omega)) (by simp) (loc_1 (one_e (by have:=esz_ok he; omega)) (by simp) (wf_loc h2 (by omega))) (wf_loc h3 (by omega))
  ·cases hr
 split at hr
 ·unfold ru4 at hr
  split at hr
  ·rename_i hk
   obtain ⟨e,k,f,rfl,rfl,h1,he⟩:=wf_2 h hk.1
   have hk2:=hk.2.1
   rw [kOf_mk] at hk2
   obtain ⟨e',x,y,g,a,b,hp,rfl,rfl,h2,h3,_,he'⟩:=wf_45 h1 (.inl hk2)
   generalize k.k = kk at *
   subst hp
   cases hr
   simp only [fiP,eOf_mk,kOf_mk,lOf_mk,Pl.k,Pl.es]
   exact loc_2 (one_e (by have:=esz_ok he'; omega)) (by simp) (wf_loc h2 (by omega)) (loc_1 (one_e (esz_sub he (fun b hb=>by rw [esz_byR hb]; decide))) (by simp) (wf_loc h3 (by omega)))
  ·cases hr
 split at hr
 ·unfold ru5 at hr
  split at hr
  ·rename_i hk
   obtain ⟨e,k,f,rfl,rfl,h1,he⟩:=wf_2 h hk.1
   have hk2:=hk.2
   rw [kOf_mk] at hk2
   obtain ⟨e',x,y,g,a,b,hp,rfl,rfl,h2,h3,_,he'⟩:=wf_45 h1 (.inl hk2)
   generalize k.k = kk at *
   subst hp
   cases hr
   simp only [andE,eOf_mk,kOf_mk,lOf_mk,Pl.k,Pl.es,Pl.ks]
   exact loc_2 (one_e (esz_and he' he)) (by simp) (wf_loc h2 (by omega)) (wf_loc h3 (by omega))
  ·cases hr
 split at hr
 ·unfold ru6 at hr
  split at hr
  ·rename_i hk
   obtain ⟨e',x,y,g,a,b,hp,rfl,rfl,h2,h3,_,he'⟩:=wf_45 h (.inl hk)
   generalize p.k = kk at *
   subst hp
   obtain ⟨w1,w2⟩:=wf_to hw (wf_mono hw h2 (show g ≤ 8 by omega))
   obtain ⟨w3,w4⟩:=wf_to hw (wf_mono hw h3 (show g ≤ 8 by omega))
   cases hr
   simp only [prP,eOf_mk,kOf_mk,lOf_mk,Pl.k,Pl.es,Pl.ks,w1,w3]
   exact loc_1 (fun x hx=>by rw [esz_byB hx]; decide) (by unfold byB; rw [List.length_append,colF_len,colF_len]; omega)
    (loc_2 (one_e (esz_sub he' (fun b hb=>by rw [esz_byB hb]; decide))) (by simp) (wf_loc h3 (by omega)) (wf_loc h2 (by omega)))
  ·cases hr
 split at hr
 ·unfold ru7 at hr
  split at hr
  ·rename_i hk
   obtain ⟨e,k,f,rfl,rfl,h1,he⟩:=wf_2 h hk.1
   have hk2:=hk.2.1
   rw [kOf_mk] at hk2
   obtain ⟨e',x,y,g,a,b,hp,rfl,rfl,h2,h3,_,he'⟩:=wf_45 h1 (.inr hk2)
   generalize k.k = kk at *
   subst hp
   cases hr
   simp only [fiP,eOf_mk,kOf_mk,lOf_mk,Pl.k,Pl.es,Pl.ks]
   exact loc_1 (one_e (by have:=esz_ok he; omega)) (by simp) (loc_2 (one_e (by have:=esz_ok he'; omega)) (by simp) (wf_loc h2 (by omega)) (wf_loc h3 (by omega)))
  ·cases hr
 split at hr
 ·unfold ru8 at hr
  split at hr
  ·rename_i hk
   obtain ⟨e,k,f,rfl,rfl,h1,he⟩:=wf_2 h hk.1
   have hk2:=hk.2
   rw [kOf_mk] at hk2
   obtain ⟨x,y,g,rfl,rfl,h2,h3⟩:=wf_6 h1 hk2
   cases hr
   simp only [fiP,eOf_mk,kOf_mk,lOf_mk,Pl.k,Pl.es,Pl.ks]
   exact loc_2 (fun x hx=>by cases hx) (by simp) (loc_1 (one_e (by have:=esz_ok he; omega)) (by simp) (wf_loc h2 (by omega))) (loc_1 (one_e (by have:=esz_ok he; omega)) (by simp) (wf_loc h3 (by omega)))
  ·cases hr
 split at hr
 ·unfold ru9 at hr
  split at hr
  ·rename_i hk
   obtain ⟨k,f,rfl,rfl,h1⟩:=wf_7 h hk.1
   cases hr
   exact wf_loc h1 (by omega)
  ·cases hr
 split at hr
 ·unfold ru10 at hr
  split at hr
  ·rename_i hk
   obtain ⟨e,k,f,rfl,rfl,h1,he⟩:=wf_2 h hk.1
   obtain ⟨es,x,g,u,rfl,rfl,rfl,h2,hl,hes⟩:=wf_3 h1 hk.2
   cases hr
   simp only [fiP,eOf_mk,kOf_mk,lOf_mk,Pl.k,Pl.es,Pl.ks]
   exact loc_1 (fun x hx=>by have:=esz_ok (hes x hx); omega) hl.2 (loc_1 (one_e (esz_sub he (fun b hb=>esz_ok (hes b hb)))) (by simp) (wf_loc h2 (by omega)))
  ·cases hr
 split at hr
 ·unfold ru11 at hr
  split at hr
  ·rename_i hk
   obtain ⟨es,k,f,u,rfl,rfl,rfl,h1,hl,hes⟩:=wf_3 h hk.1
   obtain ⟨fs,x,g,v,rfl,rfl,rfl,h2,hl2,hfs⟩:=wf_3 h1 hk.2
   cases hr
   simp only [fiP,eOf_mk,kOf_mk,lOf_mk,Pl.k,Pl.es,Pl.ks]
   exact loc_1 (fun x hx=>by
    obtain ⟨y,hy,rfl⟩:=List.mem_map.1 hx
    exact esz_sub (hes y hy) (fun b hb=>esz_ok (hfs b hb))) (by rw [List.length_map]; exact hl.2) (wf_loc h2 (by omega))
  ·cases hr
 cases hr
theorem rep_loc : ∀ (l : List Int) {p a q : Pl},paOf p l = some a → Loc p → Loc q → Loc (repP p l q):=by
 intro l
 induction l with
 | nil=>intro p a q _ _ hq; exact hq
 | cons i l ih=>
  intro p a q ha hp hq
  rw [paOf] at ha
  cases hk : kidAt p i with
  | none=>rw [hk] at ha; cases ha
  | some x=>
   rw [hk] at ha
   obtain ⟨_,_,hx⟩:=kidAt_some hk
   obtain ⟨l1,l2,l3,l4,l5⟩:=hp.own
   have h2 : p.ks.getD i.toNat zP = x:=by rw [List.getD_eq_getElem?_getD,hx]; rfl
   have h1:=ih (show paOf x l = some a from ha) (l5 x (List.mem_of_getElem? hx)) hq
   rw [rep_cons,h2]
   exact .mk l1 l2 (by show (p.ks.set _ _).length ≤ _; rw [List.length_set]; exact l3) l4 (fun y hy=>by
    rcases List.mem_or_eq_of_mem_set hy with hy | rfl
    ·exact l5 y hy
    ·exact h1)
end Go.Proofs.YtgpdmgaemhelgaaGreat
