/-
  Columns that change places: replaced by columns, or moved. No condition.
-/
import Derived.Test.YtgpdmgaemhelgaaGreatJSVRr
import Derived.Test.YtgpdmgaemhelgaaGreatJSVCpE
import Derived.Test.YtgpdmgaemhelgaaGreatJSVOcc
import Derived.Test.YtgpdmgaemhelgaaGreatJSVWf
import Derived.Test.YtgpdmgaemhelgaaGreatKSDca
import Derived.Test.YtgpdmgaemhelgaaGreatKSDcd
import Derived.Test.YtgpdmgaemhelgaaGreatJSVLoc
import Derived.Test.YtgpdmgaemhelgaaGreatJSVSzE
import Derived.Test.YtgpdmgaemhelgaaGreatJSVColsC
import Derived.Test.YtgpdmgaemhelgaaGreatJSVWidF
import Derived.Test.YtgpdmgaemhelgaaGreatJSVSzI
import Derived.Test.YtgpdmgaemhelgaaGreatJSVGo
set_option maxHeartbeats 4000000
set_option maxRecDepth 100000
set_option linter.unusedVariables false
set_option linter.unusedSimpArgs false
namespace Go.Proofs.YtgpdmgaemhelgaaGreat
open Go.RowKit
def mvE (mv : Int → Int) (e : E) : E:=if e.k = 1 then .mk e.k (mv e.c) e.v e.ks else e
theorem mvE_col {mv : Int → Int} {e : E} (h : e.k = 1) : mvE mv e = .mk e.k (mv e.c) e.v e.ks:=if_pos h
theorem mvE_no {mv : Int → Int} {e : E} (h : ¬ e.k = 1) : mvE mv e = e:=if_neg h
theorem sub_mv {bs : List E} {n : Int} {mv : Int → Int} {P : Nat → Prop} (h : ∀ c : Nat,(c : Int) < n → P c → bs[c]? = some (.mk 1 (mv c) ⟨false,0⟩ [])) : ∀ (e : E) (d : Nat),eOk e n d → (∀ c,occ e c = true → P c) → subE bs e = rwE (mvE mv) e:=by
 refine E.ind (fun e ih d he hP=>?_)
 have h0:=(eOk_iff e _ d).1 he
 have hl:=h0.2.2.2
 rw [rwE_eq]
 by_cases hk : e.k = 1
 ·unfold leafOk at hl
  rw [if_pos hk] at hl
  obtain ⟨c0,c1,v1,v2⟩:=hl
  have hks : e.ks = []:=by
   have:=h0.1
   rw [kidsN_leaf (.inl hk)] at this
   exact List.length_eq_zero_iff.1 (by omega)
  have hc : ((e.c.toNat : Nat) : Int) = e.c:=Int.toNat_of_nonneg c0
  have ho : occ e e.c.toNat = true:=by
   rw [occ_eq,hc,hk]
   simp
  rw [subE_col hk (h e.c.toNat (by omega) (hP _ ho)),hks,rwL,mvE_col (by exact hk),hc]
  obtain ⟨k,c,v,ks⟩:=e
  obtain ⟨vb,vn⟩:=v
  simp only [E.k_mk,E.c_mk,E.v_mk,E.ks_mk] at *
  subst hk v1 v2
  rfl
 ·rw [subE_no hk,mvE_no (by exact hk),subL_map,rwL_map]
  congr 1
  exact List.map_congr_left (fun x hx=>ih x hx (d - 1) (h0.2.2.1 x hx) (fun c hc=>hP c (occ_kid hx hc)))
theorem occ_lt {n : Int} : ∀ (e : E) (d : Nat),eOk e n d → ∀ c : Nat,occ e c = true → (c : Int) < n:=by
 refine E.ind (fun e ih d he c hc=>?_)
 have h0:=(eOk_iff e _ d).1 he
 rw [occ_eq,Bool.or_eq_true] at hc
 rcases hc with hc | hc
 ·rw [Bool.and_eq_true,beq_iff_eq,beq_iff_eq] at hc
  have hl:=h0.2.2.2
  unfold leafOk at hl
  rw [if_pos hc.1] at hl
  omega
 ·obtain ⟨x,hx,hxc⟩ : ∃ x,x ∈ e.ks ∧ occ x c = true:=by
   have : ∀ l : List E,occL l c = true → ∃ x,x ∈ l ∧ occ x c = true:=by
    intro l
    induction l with
    | nil=>intro h; exact absurd h (by rw [occL]; decide)
    | cons a l ih2=>
     intro h
     rw [occL,Bool.or_eq_true] at h
     rcases h with h | h
     ·exact ⟨a,List.mem_cons_self ..,h⟩
     ·obtain ⟨x,hx,h2⟩:=ih2 h
      exact ⟨x,List.mem_cons_of_mem _ hx,h2⟩
   exact this e.ks hc
  exact ih x hx (d - 1) (h0.2.2.1 x hx) c hxc
theorem mem_marked {u : Nat → Bool} {c n : Nat} : c ∈ marked u n ↔ c < n ∧ u c = true:=by
 unfold marked
 rw [List.mem_filter,List.mem_range]
theorem eOk_widen {w w' : Int} (hw : w ≤ w') : ∀ (e : E) (d : Nat),eOk e w d → eOk e w' d:=by
 refine E.ind (fun e ih d he=>?_)
 have h0:=(eOk_iff e _ d).1 he
 refine (eOk_iff e _ d).2 ⟨h0.1,h0.2.1,fun x hx=>ih x hx (d - 1) (h0.2.2.1 x hx),?_⟩
 have hl:=h0.2.2.2
 unfold leafOk at hl ⊢
 split
 ·rename_i hk
  rw [if_pos hk] at hl
  exact ⟨hl.1,by omega,hl.2.2⟩
 ·rename_i hk
  rw [if_neg hk] at hl
  exact hl
theorem byR_get {a b : Int} (ha : 0 ≤ a) {c : Nat} (h1 : a ≤ (c : Int)) (h2 : (c : Int) < a + b) : (byR a b)[c]? = some (.mk 1 ((c : Int) - a) ⟨false,0⟩ []):=by
 unfold byR
 rw [List.getElem?_append_right (by rw [colF_len]; omega),colF_len,colF_get (by omega)]
 congr 2
 omega
theorem byB_get {a b : Int} (ha : 0 ≤ a) {c : Nat} (h2 : (c : Int) < a + b) : (byB a b)[c]? = some (.mk 1 (if (c : Int) < a then (c : Int) + b else (c : Int) - a) ⟨false,0⟩ []):=by
 unfold byB
 by_cases hc : (c : Int) < a
 ·rw [if_pos hc,List.getElem?_append_left (by rw [colF_len]; omega),colF_get (by omega)]
  congr 2
  omega
 ·rw [if_neg hc,List.getElem?_append_right (by rw [colF_len]; omega),colF_len,colF_get (by omega)]
  congr 2
  omega
theorem mod_mv {a b c : Int} (ha : 0 ≤ a) (hb : 0 ≤ b) (hc : 0 ≤ c) (h : c < a + b) : (c + b).tmod (a + b) = if c < a then c + b else c - a:=by
 rw [Int.tmod_eq_emod_of_nonneg (by omega)]
 by_cases h1 : c < a
 ·rw [if_pos h1]
  exact Int.emod_eq_of_lt (by omega) (by omega)
 ·rw [if_neg h1,show c + b = (c - a) + (a + b) by omega,Int.add_emod_right]
  exact Int.emod_eq_of_lt (by omega) (by omega)
theorem sub_right {a b : Int} (ha : 0 ≤ a) (hab : a + b ≤ 6) {e : E} {d : Nat} (he : eOk e (a + b) d) (hh : highC e a) : subE (byR a b) e = rwE (mvE fun c=>c - a) e:=by
 refine sub_mv (P:=fun c=>a ≤ (c : Int)) (fun c h1 h2=>byR_get ha h2 h1) e d he (fun c hc=>hh c (mem_marked.2 ⟨?_,hc⟩))
 have:=occ_lt e d he c hc
 omega
theorem sub_both {a b : Int} (ha : 0 ≤ a) (hb : 0 ≤ b) {e : E} {d : Nat} (he : eOk e (a + b) d) : subE (byB a b) e = rwE (mvE fun c=>(c + b).tmod (a + b)) e:=
 sub_mv (P:=fun _=>True) (fun c h1 _=>by rw [byB_get ha h1,mod_mv ha hb (by omega) h1]) e d he (fun _ _=>trivial)
/-! The columns of an expression stand in order. -/
theorem marked_asc (u : Nat → Bool) (n : Nat) : (marked u n).Pairwise (· < ·):=by
 unfold marked
 exact List.Pairwise.filter _ List.pairwise_lt_range
theorem asc_first {a : Nat} {l : List Nat} (h : (a :: l).Pairwise (· < ·)) : ∀ c,c ∈ a :: l → a ≤ c:=by
 intro c hc
 rcases List.mem_cons.1 hc with rfl | hc
 ·exact Nat.le_refl _
 ·exact Nat.le_of_lt ((List.pairwise_cons.1 h).1 c hc)
theorem asc_last : ∀ (l : List Nat),l.Pairwise (· < ·) → ∀ (z : Nat),l[l.length - 1]? = some z → ∀ c,c ∈ l → c ≤ z
 | [],_,_,_,c,hc=>by cases hc
 | [a],_,z,hz,c,hc=>by
  obtain rfl : a = z:=by simpa using hz
  obtain rfl:=List.mem_singleton.1 hc
  exact Nat.le_refl _
 | a :: b :: l,h,z,hz,c,hc=>by
  have h2:=(List.pairwise_cons.1 h).2
  have hz2 : (b :: l)[(b :: l).length - 1]? = some z:=by
   have e1 : (a :: b :: l).length - 1 = ((b :: l).length - 1) + 1:=by simp
   rw [e1,List.getElem?_cons_succ] at hz
   exact hz
  have ih:=asc_last (b :: l) h2 z hz2
  rcases List.mem_cons.1 hc with rfl | hc
  ·have:=(List.pairwise_cons.1 h).1 b (List.mem_cons_self ..)
   have:=ih b (List.mem_cons_self ..)
   omega
  ·exact ih c hc
end Go.Proofs.YtgpdmgaemhelgaaGreat
set_option maxHeartbeats 4000000
set_option maxRecDepth 100000
set_option linter.unusedVariables false
set_option linter.unusedSimpArgs false
namespace Go.Proofs.YtgpdmgaemhelgaaGreat
open Go.RowKit
theorem scn_k {u k t : Int} {es : List E} {cs : List Int} {ks : List Pl} (hk : k ≠ 1) : scn u (.mk k t es cs ks) = ks.any (scn u):=by
 rw [scn_eq,if_neg (show ¬ (Pl.mk k t es cs ks).k = 1 from hk)]
 rfl
theorem scn_1k {u k t : Int} {es : List E} {cs : List Int} {q : Pl} (hk : k ≠ 1) : scn u (.mk k t es cs [q]) = scn u q:=by
 rw [scn_k hk]
 simp
theorem scn_2k {u k t : Int} {es : List E} {cs : List Int} {q r : Pl} (hk : k ≠ 1) : scn u (.mk k t es cs [q,r]) = (scn u q || scn u r):=by
 rw [scn_k hk]
 simp
theorem any_set {α : Type} (f : α → Bool) {x y : α} (h : f y = f x) : ∀ (l : List α) (i : Nat),l[i]? = some x → (l.set i y).any f = l.any f
 | [],i,hi=>by simp at hi
 | a :: l,0,hi=>by
  obtain rfl : a = x:=by simpa using hi
  rw [List.set_cons_zero,List.any_cons,List.any_cons,h]
 | a :: l,i + 1,hi=>by
  rw [List.set_cons_succ,List.any_cons,List.any_cons,any_set f h l i (by simpa using hi)]
theorem scn_rep {u : Int} {q : Pl} : ∀ (l : List Int) {p a : Pl},paOf p l = some a → scn u q = scn u a → scn u (repP p l q) = scn u p:=by
 intro l
 induction l with
 | nil=>
  intro p a ha h
  obtain rfl : p = a:=by simpa [paOf] using ha
  exact h
 | cons i l ih=>
  intro p a ha h
  rw [paOf] at ha
  cases hk : kidAt p i with
  | none=>rw [hk] at ha; cases ha
  | some x=>
   rw [hk] at ha
   obtain ⟨_,_,hx⟩:=kidAt_some hk
   have h1:=ih (show paOf x l = some a from ha) h
   have h2 : p.ks.getD i.toNat zP = x:=by rw [List.getD_eq_getElem?_getD,hx]; rfl
   rw [rep_cons,h2,scn_eq,scn_eq u p]
   show (if p.k = 1 then p.t == u else (p.ks.set i.toNat (repP x l q)).any (scn u)) = _
   rw [any_set (scn u) h1 p.ks i.toNat hx]
theorem scn_keep {ws : List Int} {p q : Pl} {r : Int} {d : Nat} {w : Int} (h : Wf ws p d w) (hr : ruP ws r p = some q) (u : Int) : scn u q = scn u p:=by
 unfold ruP at hr
 split at hr
 ·unfold ru1 at hr
  split at hr
  ·rename_i hk
   obtain ⟨e,k,f,rfl,rfl,h1,_⟩:=wf_2 h hk.1
   obtain ⟨e',k',f',rfl,rfl,h2,_⟩:=wf_2 h1 hk.2
   cases hr
   simp only [fiP,eOf_mk,kOf_mk,scn_1k (show (2 : Int) ≠ 1 by decide)]
  ·cases hr
 split at hr
 ·unfold ru2 at hr
  split at hr
  ·rename_i hk
   obtain ⟨e,k,f,rfl,rfl,h1,_⟩:=wf_2 h hk.1
   cases hr
   simp only [fiP,eOf_mk,kOf_mk,scn_1k (show (2 : Int) ≠ 1 by decide)]
  ·cases hr
 split at hr
 ·unfold ru3 at hr
  split at hr
  ·rename_i hk
   obtain ⟨e,k,f,rfl,rfl,h1,_⟩:=wf_2 h hk.1
   have hk2:=hk.2.1
   rw [kOf_mk] at hk2
   obtain ⟨e',x,y,g,a,b,hp,rfl,rfl,h2,h3,_,_⟩:=wf_45 h1 hk2
   generalize k.k = kk at *
   subst hp
   cases hr
   have hk1 : kk ≠ 1:=by omega
   simp only [fiP,eOf_mk,kOf_mk,lOf_mk,Pl.k,scn_1k (show (2 : Int) ≠ 1 by decide),scn_2k hk1]
  ·cases hr
 split at hr
 ·unfold ru4 at hr
  split at hr
  ·rename_i hk
   obtain ⟨e,k,f,rfl,rfl,h1,_⟩:=wf_2 h hk.1
   have hk2:=hk.2.1
   rw [kOf_mk] at hk2
   obtain ⟨e',x,y,g,a,b,hp,rfl,rfl,h2,h3,_,_⟩:=wf_45 h1 (.inl hk2)
   generalize k.k = kk at *
   subst hp
   cases hr
   have hk1 : kk ≠ 1:=by omega
   simp only [fiP,eOf_mk,kOf_mk,lOf_mk,Pl.k,scn_1k (show (2 : Int) ≠ 1 by decide),scn_2k hk1,scn_2k (show (4 : Int) ≠ 1 by decide)]
  ·cases hr
 split at hr
 ·unfold ru5 at hr
  split at hr
  ·rename_i hk
   obtain ⟨e,k,f,rfl,rfl,h1,_⟩:=wf_2 h hk.1
   have hk2:=hk.2
   rw [kOf_mk] at hk2
   obtain ⟨e',x,y,g,a,b,hp,rfl,rfl,h2,h3,_,_⟩:=wf_45 h1 (.inl hk2)
   generalize k.k = kk at *
   subst hp
   cases hr
   have hk1 : kk ≠ 1:=by omega
   simp only [fiP,eOf_mk,kOf_mk,lOf_mk,Pl.k,Pl.ks,scn_1k (show (2 : Int) ≠ 1 by decide),scn_2k hk1,scn_2k (show (4 : Int) ≠ 1 by decide)]
  ·cases hr
 split at hr
 ·unfold ru6 at hr
  split at hr
  ·rename_i hk
   obtain ⟨e',x,y,g,a,b,hp,rfl,rfl,h2,h3,_,_⟩:=wf_45 h (.inl hk)
   generalize p.k = kk at *
   subst hp
   cases hr
   have hk1 : kk ≠ 1:=by omega
   simp only [prP,eOf_mk,kOf_mk,lOf_mk,Pl.k,Pl.ks,scn_1k (show (3 : Int) ≠ 1 by decide),scn_2k hk1,scn_2k (show (4 : Int) ≠ 1 by decide)]
   exact Bool.or_comm _ _
  ·cases hr
 split at hr
 ·unfold ru7 at hr
  split at hr
  ·rename_i hk
   obtain ⟨e,k,f,rfl,rfl,h1,_⟩:=wf_2 h hk.1
   have hk2:=hk.2.1
   rw [kOf_mk] at hk2
   obtain ⟨e',x,y,g,a,b,hp,rfl,rfl,h2,h3,_,_⟩:=wf_45 h1 (.inr hk2)
   generalize k.k = kk at *
   subst hp
   cases hr
   have hk1 : kk ≠ 1:=by omega
   simp only [fiP,eOf_mk,kOf_mk,lOf_mk,Pl.k,Pl.ks,scn_1k (show (2 : Int) ≠ 1 by decide),scn_2k hk1,scn_2k (show (4 : Int) ≠ 1 by decide)]
  ·cases hr
 split at hr
 ·unfold ru8 at hr
  split at hr
  ·rename_i hk
   obtain ⟨e,k,f,rfl,rfl,h1,_⟩:=wf_2 h hk.1
   have hk2:=hk.2
   rw [kOf_mk] at hk2
   obtain ⟨x,y,g,rfl,rfl,h2,h3⟩:=wf_6 h1 hk2
   cases hr
   simp only [fiP,eOf_mk,kOf_mk,lOf_mk,Pl.k,Pl.ks,scn_1k (show (2 : Int) ≠ 1 by decide),scn_2k (show (6 : Int) ≠ 1 by decide)]
  ·cases hr
 split at hr
 ·unfold ru9 at hr
  split at hr
  ·rename_i hk
   obtain ⟨k,f,rfl,rfl,h1⟩:=wf_7 h hk.1
   cases hr
   rw [kOf_mk,scn_1k (by decide)]
  ·cases hr
 split at hr
 ·unfold ru10 at hr
  split at hr
  ·rename_i hk
   obtain ⟨e,k,f,rfl,rfl,h1,_⟩:=wf_2 h hk.1
   obtain ⟨es,x,g,u,rfl,rfl,rfl,h2,_,_⟩:=wf_3 h1 hk.2
   cases hr
   simp only [fiP,eOf_mk,kOf_mk,lOf_mk,Pl.k,Pl.ks,scn_1k (show (2 : Int) ≠ 1 by decide),scn_1k (show (3 : Int) ≠ 1 by decide)]
  ·cases hr
 split at hr
 ·unfold ru11 at hr
  split at hr
  ·rename_i hk
   obtain ⟨es,k,f,u,rfl,rfl,rfl,h1,_,_⟩:=wf_3 h hk.1
   obtain ⟨fs,x,g,v,rfl,rfl,rfl,h2,_,_⟩:=wf_3 h1 hk.2
   cases hr
   simp only [fiP,eOf_mk,kOf_mk,lOf_mk,Pl.k,Pl.ks,scn_1k (show (2 : Int) ≠ 1 by decide),scn_1k (show (3 : Int) ≠ 1 by decide)]
  ·cases hr
 cases hr
noncomputable def apP (ws : List Int) (r : Int) (l : List Int) (p : Pl) : Option Pl:=
 (paOf p l).bind fun a=>(ruP ws r a).bind fun q=>if wdV ws (repP p l q) 8 = 0 then none else some (repP p l q)
theorem apP_some {ws : List Int} (hw : wsOk ws) {r : Int} {l : List Int} {p x : Pl} {w : Int} (h : Wf ws p 8 w) (hx : apP ws r l p = some x) : Wf ws x 8 w ∧ ∀ u,scn u x = scn u p:=by
 unfold apP at hx
 cases ha : paOf p l with
 | none=>rw [ha] at hx; cases hx
 | some a=>
  rw [ha] at hx
  cases hq : ruP ws r a with
  | none=>rw [Option.bind_some,hq] at hx; cases hx
  | some q=>
   rw [Option.bind_some,hq,Option.bind_some] at hx
   split at hx
   ·cases hx
   ·rename_i hne
    cases hx
    obtain ⟨u,e,hd,hu,h1,h2⟩:=rep_wf hw l h ha
    have h3:=wf_of _ _ hne
    obtain ⟨u',h4⟩:=h2 q _ h3
    have h5:=keeps hw hu (by omega) h4 hq
    subst h5
    exact ⟨h1 q h4,fun t=>scn_rep l ha (scn_keep hu hq t)⟩
theorem apP_part {ws : List Int} (hw : wsOk ws) {r : Int} {l : List Int} {p a q : Pl} {w : Int} (h : Wf ws p 8 w) (ha : paOf p l = some a) (hq : ruP ws r a = some q) : l.length ≤ 8 ∧ (wdV ws q (8 - l.length) = 0 ↔ wdV ws (repP p l q) 8 = 0):=by
 obtain ⟨u,e,hd,hu,h1,h2⟩:=rep_wf hw l h ha
 have he : 8 - l.length = e:=by omega
 rw [he]
 refine ⟨by omega,fun h0=>Classical.byContradiction fun hne=>?_,fun h0=>Classical.byContradiction fun hne=>?_⟩
 ·obtain ⟨u',h4⟩:=h2 q _ (wf_of _ _ hne)
  have:=wf_to hw h4
  omega
 ·have h3:=wf_of _ _ hne
  have h5:=keeps hw hu (by omega) h3 hq
  rw [h5] at h3
  have:=wf_to hw (h1 q h3)
  omega
end Go.Proofs.YtgpdmgaemhelgaaGreat
set_option maxHeartbeats 4000000
set_option maxRecDepth 100000
set_option linter.unusedVariables false
set_option linter.unusedSimpArgs false
namespace Go.Proofs.YtgpdmgaemhelgaaGreat
open Go.RowKit
def cD (c : Int) : D:=.agg [I 1,I c,Bo false,I 0,.nul]
def ciL (b : Int) (n : Nat) : List Int:=(List.range n).map fun i : Nat=>b + i
theorem ciL_len (b : Int) (n : Nat) : (ciL b n).length = n:=by unfold ciL; rw [List.length_map,List.length_range]
theorem ciL_get {b : Int} {n i : Nat} (h : i < n) : (ciL b n)[i]? = some (b + i):=by
 unfold ciL
 rw [List.getElem?_map,List.getElem?_range h]
 rfl
theorem colF_ci (b : Int) (n : Nat) : colF b n = (ciL b n).map (fun c=>E.mk 1 c ⟨false,0⟩ []):=by
 unfold colF ciL
 rw [List.map_map]
 rfl
theorem cD_sub (l : List Int) : Sub (.sl 5 (l.map cD)) (.sl 5 ((l.map (fun c=>E.mk 1 c ⟨false,0⟩ [])).map eD)):=by
 rw [List.map_map]
 refine Sub.slmap _ _ _ (fun a ha=>?_) (fun a ha=>?_)
 ·show (eD (E.mk 1 a ⟨false,0⟩ [])).cells.length = 5
  rw [eD_eq]; rfl
 ·show SubL (cD a).cells (eD (E.mk 1 a ⟨false,0⟩ [])).cells
  rw [eD_eC]
  exact leafC a
theorem cD_pur : ∀ l : List Int,D.purL (l.map cD) = true
 | []=>rfl
 | a :: l=>by rw [List.map_cons,D.purL,cD_pur l]; rfl
theorem cD_ren (L : List Nat) (l : List Int) : D.renL L (l.map cD) = l.map cD:=ren_pure.renL_pure L _ (cD_pur l)
attribute [go_sem] cD_pur cD_ren
theorem columnsFrom_own (b : Int) (n : Nat) (hb : 0 ≤ b ∧ b ≤ 1000) (hn : n ≤ 1000) : Does Tryz.prog 142 [] [I b,I n] (.own 1000000 5 n) [.row 5 ((ciL b n).map cD)]:=by
 have hcl:=ciL_len b n
 refine Bk c_Z61 mixed 0 (go1 trivial ?_)
 refine dw_for (c:=1) (l:=fun i=>[(0,I b),(1,I n),(5,.own 1000000 5 i),(6,I i),(1000000,.row 5 (((ciL b n).take i).map cD))]) n (fun _=>True) 0 trivial ((wk_row 5 2000090 5 (by decide) (by decide) rfl rfl).trans (Wk.list [2000090] rfl rfl ?_)) (fun i hi _=>?_) (Nat.zero_le _)
 ·repeat' (first|(conv in hold _=>simp (disch:=omega) only [go_sem])|exact trivial|exact Sub.refl _|omega)
  (repeat' apply And.intro) <;> rfl
 ·have htl : ((ciL b n).take i).length = i:=by rw [List.length_take]; omega
  have hmk:=take_map cD (vs:=ciL b n) (i:=i) (by omega)
  by_cases hil : i < n
  ·have hnx:=take_next (ciL_get (b:=b) hil)
   refine go1 trivial ?_
   refine ⟨hil,trivial,Wk.list [2000019] rfl rfl ?_⟩
   repeat' (first|(conv in hold _=>simp (disch:=omega) only [go_sem,List.length_map,htl])|exact trivial|exact Sub.refl _|omega)
   rw [hmk,hnx,List.map_append,List.map_cons,List.map_nil]
   rfl
  ·obtain rfl : i = n:=by omega
   have e1 : (ciL b i).take i = ciL b i:=List.take_of_length_le (by omega)
   rw [e1]
   refine go1 trivial ?_
   refine fin_L [1000000] ?_ ?_ rfl ?_
   repeat' (first|(conv in hold _=>simp (disch:=omega) only [go_sem])|exact trivial|exact Sub.refl _|omega)
theorem columnList_own (a b : Int) (ha : 0 ≤ a ∧ a ≤ 1000) (hb : 0 ≤ b ∧ b ≤ 1000) : Does Tryz.prog 175 [] [I a,I (a + b)] (.own 1000000 1 b.toNat) [.row 1 ((nulC a b).map I)]:=by
 have hcl : (nulC a b).length = b.toNat:=by unfold nulC; rw [List.length_map,List.length_range]
 have hget : ∀ i : Nat,i < b.toNat → (nulC a b)[i]? = some (a + (i : Int)):=fun i hi=>by
  unfold nulC
  rw [List.getElem?_map,List.getElem?_range hi]
  rfl
 refine Bk c_Z72 mixed 0 (go1 trivial ?_)
 refine dw_for (c:=1) (l:=fun i=>[(1,I (a + b)),(5,.own 1000000 1 i),(6,I (a + i)),(1000000,.row 1 (((nulC a b).take i).map I))]) b.toNat (fun _=>True) 0 trivial ((wk_row 5 2000090 1 (by decide) (by decide) rfl rfl).trans (Wk.list [2000090] rfl rfl ?_)) (fun i hi _=>?_) (Nat.zero_le _)
 ·repeat' (first|(conv in hold _=>simp (disch:=omega) only [go_sem])|exact trivial|exact Sub.refl _|omega)
  (repeat' apply And.intro) <;> first | rfl | exact congrArg (fun n=>D.v (Value.int .i64 n)) (by omega)
 ·have htl : ((nulC a b).take i).length = i:=by rw [List.length_take]; omega
  have hmk:=take_map I (vs:=nulC a b) (i:=i) (by omega)
  by_cases hil : i < b.toNat
  ·have hnx:=take_next (hget i hil)
   refine go1 trivial ?_
   refine ⟨hil,trivial,Wk.list [2000017] rfl rfl ?_⟩
   repeat' (first|(conv in hold _=>simp (disch:=omega) only [go_sem,List.length_map,htl])|exact trivial|exact Sub.refl _|omega)
   (repeat' apply And.intro) <;> first | rfl | exact congrArg (fun n=>D.v (Value.int .i64 n)) (by omega) | (rw [hmk,hnx,List.map_append]; rfl)
  ·obtain rfl : i = b.toNat:=by omega
   have e1 : (nulC a b).take b.toNat = nulC a b:=List.take_of_length_le (by omega)
   rw [e1]
   refine go1 trivial ?_
   refine fin_L [1000000] ?_ ?_ rfl ?_
   repeat' (first|(conv in hold _=>simp (disch:=omega) only [go_sem])|exact trivial|exact Sub.refl _|omega)
theorem within_ok (e : E) (h : eOk e 6 8) (lo hi : Int) : Does Tryz.prog 173 [] [eD e,I lo,I hi] (Bo (decide (∀ c,c ∈ marked (occ e) 6 → lo ≤ (c : Int) ∧ (c : Int) ≤ hi))) []:=by
 have hac : Does Tryz.prog 186 [] [.nul,eD e] (.sl 1 (colsL (occ e) 6)) []:=by
  have:=addColumns_ok e 8 h (fun _=>false)
  rw [show colsL (fun _=>false) 6 = [] from rfl,show (fun j=>false || occ e j) = occ e from funext fun j=>Bool.false_or _] at this
  exact this.weak ⟨Sub.nul 1,Sub.refl _,trivial⟩ (Sub.refl _)
 have hasc:=marked_asc (occ e) 6
 have hml:=marked_len (occ e) 6
 unfold colsL at hac
 generalize marked (occ e) 6 = l at *
 cases l with
 | nil=>
  rw [decide_eq_true (fun c hc=>by cases hc)]
  refine Bg c_Z154 mixed (go1 trivial ?_)
  exact Uc trivial (hac) (go0 trivial)
 | cons a l=>
  obtain ⟨z,hz⟩ : ∃ z,(a :: l)[(a :: l).length - 1]? = some z:=⟨_,List.getElem?_eq_getElem (by simp)⟩
  have hf:=asc_first hasc
  have hla:=asc_last _ hasc z hz
  have hzm:=List.mem_of_getElem? hz
  have hz2 : (((a :: l).map fun j : Nat=>I (j : Int))[l.length]?) = some (I z):=by
   rw [List.getElem?_map]
   have : (a :: l).length - 1 = l.length:=by simp
   rw [this] at hz
   rw [hz]
   rfl
  have hll : ((a :: l).map fun j : Nat=>I (j : Int)).length = l.length + 1:=by simp
  have hg0 : (((a :: l).map fun j : Nat=>I (j : Int))[0]?) = some (I a):=rfl
  have hiff : (∀ c,c ∈ a :: l → lo ≤ (c : Int) ∧ (c : Int) ≤ hi) ↔ lo ≤ (a : Int) ∧ (z : Int) ≤ hi:=by
   constructor
   ·intro h
    exact ⟨(h a (List.mem_cons_self ..)).1,(h z hzm).2⟩
   ·intro h c hc
    have h1:=hf c hc
    have h2:=hla c hc
    omega
  rw [decide_eq_decide.2 hiff]
  obtain ⟨ds,hds⟩ : ∃ ds,ds = (a :: l).map (fun j : Nat=>I (j : Int)):=⟨_,rfl⟩
  rw [← hds] at hac hz2 hll hg0
  clear hds
  have hl5 : l.length ≤ 5:=by simp at hml; omega
  by_cases h1 : lo ≤ (a : Int)
  ·refine Bg c_Z154 mixed (go1 trivial ?_)
   refine Uc (cj3 @hll @hg0 @hz2) (hac) (go1 (cj3 @hll @hg0 @hz2) ?_)
   all_goals exact sub_iff (by simp; omega)
  ·rw [decide_eq_false (fun h=>h1 h.1)]
   refine Bg c_Z154 mixed (go1 trivial ?_)
   exact Uc (cj3 @hll @hg0 @hz2) (hac) (go0 (cj3 @hll @hg0 @hz2))
theorem rejects_ok {e : E} {w : Nat} (hw : w ≤ 6) (ns : List Int) (hl : ns.length ≤ 1048576) (he : eOk e w 8) : Does Tryz.prog 174 [] [eD e,I w,intsD ns] (Bo (intBit .and .i64 (oc e (stL ns w)) 2 == 0)) []:=by
 have hsl:=stL_len ns w
 have h4:=nullStates_ok w (by omega) ns hl
 obtain ⟨_,hA,_⟩:=oc_ok (stL_ok ns w) (by kernel_rfl) (by kernel_rfl) e 8 (by rw [hsl]; exact he)
 generalize oc e (stL ns w) = n at *
 refine Bg c_Z133 mixed (go1 trivial ?_)
 refine Uc trivial (h4) (go1 trivial ?_)
 exact Uc trivial (hA) (go0 trivial)
theorem planW {ws : List Int} (hw : wsOk ws) {p : Pl} {d : Nat} {w : Int} (h : Wf ws p d w) (hd : d ≤ 8) : Does Tryz.prog 95 [] [pD p,intsD ws,I 8] (I w) [] ∧ wdV ws p 8 = w:=by
 have h8:=wf_mono hw h hd
 obtain ⟨h1,h2⟩:=wf_to hw h8
 have hs:=wf_size h8
 rw [pw_8] at hs
 obtain ⟨_,h3,_⟩:=width_loc hw p (loc_of p (by omega)) 8 (by decide)
 rw [h1] at h3
 exact ⟨h3,h1⟩
end Go.Proofs.YtgpdmgaemhelgaaGreat
set_option maxHeartbeats 4000000
set_option maxRecDepth 100000
set_option linter.unusedVariables false
set_option linter.unusedSimpArgs false
namespace Go.Proofs.YtgpdmgaemhelgaaGreat
open Go.RowKit
theorem wf_loc {ws : List Int} {p : Pl} {d : Nat} {w : Int} (h : Wf ws p d w) (hd : d ≤ 8) : Loc p:=by
 have h1:=wf_size h
 have h2:=pw_mono hd
 rw [pw_8] at h2
 exact loc_of p (by omega)
theorem esz_ok {e : E} {w : Int} (h : eOk e w 8) : esz e ≤ 511:=by
 have:=esz_small e 8 h (by decide)
 omega
theorem loc_1 {k : Int} {es : List E} {q : Pl} (hes : ∀ e,e ∈ es → esz e ≤ 800000) (hl : es.length ≤ 6) (hq : Loc q) : Loc (.mk k 0 es [] [q]):=
 .mk (by show es.length ≤ _; omega) (Nat.zero_le _) (by show 1 ≤ _; decide) hes (fun x hx=>by obtain rfl:=List.mem_singleton.1 hx; exact hq)
theorem loc_2 {k : Int} {es : List E} {q r : Pl} (hes : ∀ e,e ∈ es → esz e ≤ 800000) (hl : es.length ≤ 6) (hq : Loc q) (hr : Loc r) : Loc (.mk k 0 es [] [q,r]):=
 .mk (by show es.length ≤ _; omega) (Nat.zero_le _) (by show 2 ≤ _; decide) hes (fun x hx=>by
  rcases List.mem_cons.1 hx with rfl | hx
  ·exact hq
  ·obtain rfl:=List.mem_singleton.1 hx; exact hr)
theorem one_e {e : E} (h : esz e ≤ 800000) : ∀ x,x ∈ [e] → esz x ≤ 800000:=fun x hx=>by obtain rfl:=List.mem_singleton.1 hx; exact h
theorem esz_and {a b : E} {w w' : Int} (ha : eOk a w 8) (hb : eOk b w' 8) : esz (.mk 8 0 ⟨false,0⟩ [a,b]) ≤ 800000:=by
 have h1:=esz_ok ha
 have h2:=esz_ok hb
 rw [esz_eq,E.ks_mk,eszL,eszL,eszL]
 omega
theorem esz_sub {bs : List E} {e : E} {w : Int} (he : eOk e w 8) (hb : ∀ b,b ∈ bs → esz b ≤ 511) : esz (subE bs e) ≤ 800000:=by
 have h1:=esz_subE (M:=511) (by decide) hb e
 have h2:=Nat.mul_le_mul_right 511 (esz_ok he)
 omega
theorem esz_colF {b : Int} {n : Nat} {x : E} (h : x ∈ colF b n) : esz x = 1:=by
 obtain ⟨i,_,rfl⟩:=List.mem_map.1 h
 rw [esz_eq]; rfl
theorem esz_byR {a b : Int} {x : E} (h : x ∈ byR a b) : esz x = 1:=(List.mem_append.1 h).elim esz_colF esz_colF
theorem esz_byB {a b : Int} {x : E} (h : x ∈ byB a b) : esz x = 1:=(List.mem_append.1 h).elim esz_colF esz_colF
theorem ru_loc {ws : List Int} (hw : wsOk ws) {p q : Pl} {r : Int} {d : Nat} {w : Int} (h : Wf ws p d w) (hd : d ≤ 8) (hr : ruP ws r p = some q) : Loc q:=by
 unfold ruP at hr
 split at hr
 ·unfold ru1 at hr
  split at hr
  ·rename_i hk
   obtain ⟨e,k,f,rfl,rfl,h1,he⟩:=wf_2 h hk.1
   obtain ⟨e',k',f',rfl,rfl,h2,he'⟩:=wf_2 h1 hk.2
   cases hr
   simp only [fiP,andE,eOf_mk,kOf_mk]
   exact loc_1 (one_e (esz_and he' he)) (by simp) (wf_loc h2 (by omega))
  ·cases hr
 split at hr
 ·unfold ru2 at hr
  split at hr
  ·rename_i hk
   obtain ⟨e,k,f,rfl,rfl,h1,he⟩:=wf_2 h hk.1
   have hk2:=hk.2
   rw [eOf_mk] at hk2
   rcases eOk_kids he with ⟨h3,_⟩ | ⟨h3,_⟩ | ⟨_,a,b,hks,ha,hb⟩
   ·omega
   ·omega
   ·cases hr
    simp only [fiP,eOf_mk,kOf_mk,hks]
    have s1:=esz_small a _ ha (by decide)
    have s2:=esz_small b _ hb (by decide)
    exact loc_1 (one_e (by show esz b ≤ _; omega)) (by simp) (loc_1 (one_e (by show esz a ≤ _; omega)) (by simp) (wf_loc h1 (by omega)))
  ·cases hr
 split at hr
 ·unfold ru3 at hr
  split at hr
  ·rename_i hk
   obtain ⟨e,k,f,rfl,rfl,h1,he⟩:=wf_2 h hk.1
   have hk2:=hk.2.1
   rw [kOf_mk] at hk2
   obtain ⟨e',x,y,g,a,b,hp,rfl,rfl,h2,h3,_,he'⟩:=wf_45 h1 hk2
   generalize k.k = kk at *
   subst hp
   cases hr
   simp only [fiP,eOf_mk,kOf_mk,lOf_mk,Pl.k,Pl.es]
   exact loc_2 (one_e (by have:=esz_ok he'; omega)) (by simp) (loc_1 (one_e (by have:=esz_ok he; omega)) (by simp) (wf_loc h2 (by omega))) (wf_loc h3 (by omega))
  ·cases hr
 split at hr
 ·unfold ru4 at hr
  split at hr
  ·rename_i hk
   obtain ⟨e,k,f,rfl,rfl,h1,he⟩:=wf_2 h hk.1
   have hk2:=hk.2.1
   rw [kOf_mk] at hk2
   obtain ⟨e',x,y,g,a,b,hp,rfl,rfl,h2,h3,_,he'⟩:=wf_45 h1 (.inl hk2)
   generalize k.k = kk at *
   subst hp
   cases hr
   simp only [fiP,eOf_mk,kOf_mk,lOf_mk,Pl.k,Pl.es]
   exact loc_2 (one_e (by have:=esz_ok he'; omega)) (by simp) (wf_loc h2 (by omega)) (loc_1 (one_e (esz_sub he (fun b hb=>by rw [esz_byR hb]; decide))) (by simp) (wf_loc h3 (by omega)))
  ·cases hr
 split at hr
 ·unfold ru5 at hr
  split at hr
  ·rename_i hk
   obtain ⟨e,k,f,rfl,rfl,h1,he⟩:=wf_2 h hk.1
   have hk2:=hk.2
   rw [kOf_mk] at hk2
   obtain ⟨e',x,y,g,a,b,hp,rfl,rfl,h2,h3,_,he'⟩:=wf_45 h1 (.inl hk2)
   generalize k.k = kk at *
   subst hp
   cases hr
   simp only [andE,eOf_mk,kOf_mk,lOf_mk,Pl.k,Pl.es,Pl.ks]
   exact loc_2 (one_e (esz_and he' he)) (by simp) (wf_loc h2 (by omega)) (wf_loc h3 (by omega))
  ·cases hr
 split at hr
 ·unfold ru6 at hr
  split at hr
  ·rename_i hk
   obtain ⟨e',x,y,g,a,b,hp,rfl,rfl,h2,h3,_,he'⟩:=wf_45 h (.inl hk)
   generalize p.k = kk at *
   subst hp
   obtain ⟨w1,w2⟩:=wf_to hw (wf_mono hw h2 (show g ≤ 8 by omega))
   obtain ⟨w3,w4⟩:=wf_to hw (wf_mono hw h3 (show g ≤ 8 by omega))
   cases hr
   simp only [prP,eOf_mk,kOf_mk,lOf_mk,Pl.k,Pl.es,Pl.ks,w1,w3]
   exact loc_1 (fun x hx=>by rw [esz_byB hx]; decide) (by unfold byB; rw [List.length_append,colF_len,colF_len]; omega)
    (loc_2 (one_e (esz_sub he' (fun b hb=>by rw [esz_byB hb]; decide))) (by simp) (wf_loc h3 (by omega)) (wf_loc h2 (by omega)))
  ·cases hr
 split at hr
 ·unfold ru7 at hr
  split at hr
  ·rename_i hk
   obtain ⟨e,k,f,rfl,rfl,h1,he⟩:=wf_2 h hk.1
   have hk2:=hk.2.1
   rw [kOf_mk] at hk2
   obtain ⟨e',x,y,g,a,b,hp,rfl,rfl,h2,h3,_,he'⟩:=wf_45 h1 (.inr hk2)
   generalize k.k = kk at *
   subst hp
   cases hr
   simp only [fiP,eOf_mk,kOf_mk,lOf_mk,Pl.k,Pl.es,Pl.ks]
   exact loc_1 (one_e (by have:=esz_ok he; omega)) (by simp) (loc_2 (one_e (by have:=esz_ok he'; omega)) (by simp) (wf_loc h2 (by omega)) (wf_loc h3 (by omega)))
  ·cases hr
 split at hr
 ·unfold ru8 at hr
  split at hr
  ·rename_i hk
   obtain ⟨e,k,f,rfl,rfl,h1,he⟩:=wf_2 h hk.1
   have hk2:=hk.2
   rw [kOf_mk] at hk2
   obtain ⟨x,y,g,rfl,rfl,h2,h3⟩:=wf_6 h1 hk2
   cases hr
   simp only [fiP,eOf_mk,kOf_mk,lOf_mk,Pl.k,Pl.es,Pl.ks]
   exact loc_2 (fun x hx=>by cases hx) (by simp) (loc_1 (one_e (by have:=esz_ok he; omega)) (by simp) (wf_loc h2 (by omega))) (loc_1 (one_e (by have:=esz_ok he; omega)) (by simp) (wf_loc h3 (by omega)))
  ·cases hr
 split at hr
 ·unfold ru9 at hr
  split at hr
  ·rename_i hk
   obtain ⟨k,f,rfl,rfl,h1⟩:=wf_7 h hk.1
   cases hr
   exact wf_loc h1 (by omega)
  ·cases hr
 split at hr
 ·unfold ru10 at hr
  split at hr
  ·rename_i hk
   obtain ⟨e,k,f,rfl,rfl,h1,he⟩:=wf_2 h hk.1
   obtain ⟨es,x,g,u,rfl,rfl,rfl,h2,hl,hes⟩:=wf_3 h1 hk.2
   cases hr
   simp only [fiP,eOf_mk,kOf_mk,lOf_mk,Pl.k,Pl.es,Pl.ks]
   exact loc_1 (fun x hx=>by have:=esz_ok (hes x hx); omega) hl.2 (loc_1 (one_e (esz_sub he (fun b hb=>esz_ok (hes b hb)))) (by simp) (wf_loc h2 (by omega)))
  ·cases hr
 split at hr
 ·unfold ru11 at hr
  split at hr
  ·rename_i hk
   obtain ⟨es,k,f,u,rfl,rfl,rfl,h1,hl,hes⟩:=wf_3 h hk.1
   obtain ⟨fs,x,g,v,rfl,rfl,rfl,h2,hl2,hfs⟩:=wf_3 h1 hk.2
   cases hr
   simp only [fiP,eOf_mk,kOf_mk,lOf_mk,Pl.k,Pl.es,Pl.ks]
   exact loc_1 (fun x hx=>by
    obtain ⟨y,hy,rfl⟩:=List.mem_map.1 hx
    exact esz_sub (hes y hy) (fun b hb=>esz_ok (hfs b hb))) (by rw [List.length_map]; exact hl.2) (wf_loc h2 (by omega))
  ·cases hr
 cases hr
theorem rep_loc : ∀ (l : List Int) {p a q : Pl},paOf p l = some a → Loc p → Loc q → Loc (repP p l q):=by
 intro l
 induction l with
 | nil=>intro p a q _ _ hq; exact hq
 | cons i l ih=>
  intro p a q ha hp hq
  rw [paOf] at ha
  cases hk : kidAt p i with
  | none=>rw [hk] at ha; cases ha
  | some x=>
   rw [hk] at ha
   obtain ⟨_,_,hx⟩:=kidAt_some hk
   obtain ⟨l1,l2,l3,l4,l5⟩:=hp.own
   have h2 : p.ks.getD i.toNat zP = x:=by rw [List.getD_eq_getElem?_getD,hx]; rfl
   have h1:=ih (show paOf x l = some a from ha) (l5 x (List.mem_of_getElem? hx)) hq
   rw [rep_cons,h2]
   exact .mk l1 l2 (by show (p.ks.set _ _).length ≤ _; rw [List.length_set]; exact l3) l4 (fun y hy=>by
    rcases List.mem_or_eq_of_mem_set hy with hy | rfl
    ·exact l5 y hy
    ·exact h1)
end Go.Proofs.YtgpdmgaemhelgaaGreat
