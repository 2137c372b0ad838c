/-
  What the rules of rewriting make is no longer than may be. No condition.
-/
import Derived.Test.YtgpdmgaemhelgaaGreatJSVPlanE
import Derived.Test.YtgpdmgaemhelgaaGreatJSVPlanO
import Derived.Test.YtgpdmgaemhelgaaGreatKSDca
import Derived.Test.YtgpdmgaemhelgaaGreatKSDcd
import Derived.Test.YtgpdmgaemhelgaaGreatJSVTruI
import Derived.Test.YtgpdmgaemhelgaaGreatJSVColsC
import Derived.Test.YtgpdmgaemhelgaaGreatJSVRej
import Derived.Test.YtgpdmgaemhelgaaGreatJSVCond
import Derived.Test.YtgpdmgaemhelgaaGreatJSVYld
import Derived.Test.YtgpdmgaemhelgaaGreatJSVLaw
set_option maxHeartbeats 4000000
set_option maxRecDepth 100000
set_option linter.unusedVariables false
set_option linter.unusedSimpArgs false
namespace Go.Proofs.YtgpdmgaemhelgaaGreat
open Go.RowKit
theorem wf_loc {ws : List Int} {p : Pl} {d : Nat} {w : Int} (h : Wf ws p d w) (hd : d ≤ 8) : Loc p:=by
 have h1:=wf_size h
 have h2:=pw_mono hd
 rw [pw_8] at h2
 exact loc_of p (by omega)
theorem esz_ok {e : E} {w : Int} (h : eOk e w 8) : esz e ≤ 511:=by
 have:=esz_small e 8 h (by decide)
 omega
theorem loc_1 {k : Int} {es : List E} {q : Pl} (hes : ∀ e,e ∈ es → esz e ≤ 800000) (hl : es.length ≤ 6) (hq : Loc q) : Loc (.mk k 0 es [] [q]):=
 .mk (by show es.length ≤ _; omega) (Nat.zero_le _) (by show 1 ≤ _; decide) hes (fun x hx=>by obtain rfl:=List.mem_singleton.1 hx; exact hq)
theorem loc_2 {k : Int} {es : List E} {q r : Pl} (hes : ∀ e,e ∈ es → esz e ≤ 800000) (hl : es.length ≤ 6) (hq : Loc q) (hr : Loc r) : Loc (.mk k 0 es [] [q,r]):=
 .mk (by show es.length ≤ _; omega) (Nat.zero_le _) (by show 2 ≤ _; decide) hes (fun x hx=>by
  rcases List.mem_cons.1 hx with rfl | hx
  ·exact hq
  ·obtain rfl:=List.mem_singleton.1 hx; exact hr)
theorem one_e {e : E} (h : esz e ≤ 800000) : ∀ x,x ∈ [e] → esz x ≤ 800000:=fun x hx=>by obtain rfl:=List.mem_singleton.1 hx; exact h
theorem esz_and {a b : E} {w w' : Int} (ha : eOk a w 8) (hb : eOk b w' 8) : esz (.mk 8 0 ⟨false,0⟩ [a,b]) ≤ 800000:=by
 have h1:=esz_ok ha
 have h2:=esz_ok hb
 rw [esz_eq,E.ks_mk,eszL,eszL,eszL]
 omega
theorem esz_sub {bs : List E} {e : E} {w : Int} (he : eOk e w 8) (hb : ∀ b,b ∈ bs → esz b ≤ 511) : esz (subE bs e) ≤ 800000:=by
 have h1:=esz_subE (M:=511) (by decide) hb e
 have h2:=Nat.mul_le_mul_right 511 (esz_ok he)
 omega
theorem esz_colF {b : Int} {n : Nat} {x : E} (h : x ∈ colF b n) : esz x = 1:=by
 obtain ⟨i,_,rfl⟩:=List.mem_map.1 h
 rw [esz_eq]; rfl
theorem esz_byR {a b : Int} {x : E} (h : x ∈ byR a b) : esz x = 1:=(List.mem_append.1 h).elim esz_colF esz_colF
theorem esz_byB {a b : Int} {x : E} (h : x ∈ byB a b) : esz x = 1:=(List.mem_append.1 h).elim esz_colF esz_colF
theorem ru_loc {ws : List Int} (hw : wsOk ws) {p q : Pl} {r : Int} {d : Nat} {w : Int} (h : Wf ws p d w) (hd : d ≤ 8) (hr : ruP ws r p = some q) : Loc q:=by
 unfold ruP at hr
 split at hr
 ·unfold ru1 at hr
  split at hr
  ·rename_i hk
   obtain ⟨e,k,f,rfl,rfl,h1,he⟩:=wf_2 h hk.1
   obtain ⟨e',k',f',rfl,rfl,h2,he'⟩:=wf_2 h1 hk.2
   cases hr
   simp only [fiP,andE,eOf_mk,kOf_mk]
   exact loc_1 (one_e (esz_and he' he)) (by simp) (wf_loc h2 (by omega))
  ·cases hr
 split at hr
 ·unfold ru2 at hr
  split at hr
  ·rename_i hk
   obtain ⟨e,k,f,rfl,rfl,h1,he⟩:=wf_2 h hk.1
   have hk2:=hk.2
   rw [eOf_mk] at hk2
   rcases eOk_kids he with ⟨h3,_⟩ | ⟨h3,_⟩ | ⟨_,a,b,hks,ha,hb⟩
   ·omega
   ·omega
   ·cases hr
    simp only [fiP,eOf_mk,kOf_mk,hks]
    have s1:=esz_small a _ ha (by decide)
    have s2:=esz_small b _ hb (by decide)
    exact loc_1 (one_e (by show esz b ≤ _; omega)) (by simp) (loc_1 (one_e (by show esz a ≤ _; omega)) (by simp) (wf_loc h1 (by omega)))
  ·cases hr
 split at hr
 ·unfold ru3 at hr
  split at hr
  ·rename_i hk
   obtain ⟨e,k,f,rfl,rfl,h1,he⟩:=wf_2 h hk.1
   have hk2:=hk.2.1
   rw [kOf_mk] at hk2
   obtain ⟨e',x,y,g,a,b,hp,rfl,rfl,h2,h3,_,he'⟩:=wf_45 h1 hk2
   generalize k.k = kk at *
   subst hp
   cases hr
   simp only [fiP,eOf_mk,kOf_mk,lOf_mk,Pl.k,Pl.es]
   exact loc_2 (one_e (by have:=esz_ok he'; omega)) (by simp) (loc_1 (one_e (by have:=esz_ok he; omega)) (by simp) (wf_loc h2 (by omega))) (wf_loc h3 (by omega))
  ·cases hr
 split at hr
 ·unfold ru4 at hr
  split at hr
  ·rename_i hk
   obtain ⟨e,k,f,rfl,rfl,h1,he⟩:=wf_2 h hk.1
   have hk2:=hk.2.1
   rw [kOf_mk] at hk2
   obtain ⟨e',x,y,g,a,b,hp,rfl,rfl,h2,h3,_,he'⟩:=wf_45 h1 (.inl hk2)
   generalize k.k = kk at *
   subst hp
   cases hr
   simp only [fiP,eOf_mk,kOf_mk,lOf_mk,Pl.k,Pl.es]
   exact loc_2 (one_e (by have:=esz_ok he'; omega)) (by simp) (wf_loc h2 (by omega)) (loc_1 (one_e (esz_sub he (fun b hb=>by rw [esz_byR hb]; decide))) (by simp) (wf_loc h3 (by omega)))
  ·cases hr
 split at hr
 ·unfold ru5 at hr
  split at hr
  ·rename_i hk
   obtain ⟨e,k,f,rfl,rfl,h1,he⟩:=wf_2 h hk.1
   have hk2:=hk.2
   rw [kOf_mk] at hk2
   obtain ⟨e',x,y,g,a,b,hp,rfl,rfl,h2,h3,_,he'⟩:=wf_45 h1 (.inl hk2)
   generalize k.k = kk at *
   subst hp
   cases hr
   simp only [andE,eOf_mk,kOf_mk,lOf_mk,Pl.k,Pl.es,Pl.ks]
   exact loc_2 (one_e (esz_and he' he)) (by simp) (wf_loc h2 (by omega)) (wf_loc h3 (by omega))
  ·cases hr
 split at hr
 ·unfold ru6 at hr
  split at hr
  ·rename_i hk
   obtain ⟨e',x,y,g,a,b,hp,rfl,rfl,h2,h3,_,he'⟩:=wf_45 h (.inl hk)
   generalize p.k = kk at *
   subst hp
   obtain ⟨w1,w2⟩:=wf_to hw (wf_mono hw h2 (show g ≤ 8 by omega))
   obtain ⟨w3,w4⟩:=wf_to hw (wf_mono hw h3 (show g ≤ 8 by omega))
   cases hr
   simp only [prP,eOf_mk,kOf_mk,lOf_mk,Pl.k,Pl.es,Pl.ks,w1,w3]
   exact loc_1 (fun x hx=>by rw [esz_byB hx]; decide) (by unfold byB; rw [List.length_append,colF_len,colF_len]; omega)
    (loc_2 (one_e (esz_sub he' (fun b hb=>by rw [esz_byB hb]; decide))) (by simp) (wf_loc h3 (by omega)) (wf_loc h2 (by omega)))
  ·cases hr
 split at hr
 ·unfold ru7 at hr
  split at hr
  ·rename_i hk
   obtain ⟨e,k,f,rfl,rfl,h1,he⟩:=wf_2 h hk.1
   have hk2:=hk.2.1
   rw [kOf_mk] at hk2
   obtain ⟨e',x,y,g,a,b,hp,rfl,rfl,h2,h3,_,he'⟩:=wf_45 h1 (.inr hk2)
   generalize k.k = kk at *
   subst hp
   cases hr
   simp only [fiP,eOf_mk,kOf_mk,lOf_mk,Pl.k,Pl.es,Pl.ks]
   exact loc_1 (one_e (by have:=esz_ok he; omega)) (by simp) (loc_2 (one_e (by have:=esz_ok he'; omega)) (by simp) (wf_loc h2 (by omega)) (wf_loc h3 (by omega)))
  ·cases hr
 split at hr
 ·unfold ru8 at hr
  split at hr
  ·rename_i hk
   obtain ⟨e,k,f,rfl,rfl,h1,he⟩:=wf_2 h hk.1
   have hk2:=hk.2
   rw [kOf_mk] at hk2
   obtain ⟨x,y,g,rfl,rfl,h2,h3⟩:=wf_6 h1 hk2
   cases hr
   simp only [fiP,eOf_mk,kOf_mk,lOf_mk,Pl.k,Pl.es,Pl.ks]
   exact loc_2 (fun x hx=>by cases hx) (by simp) (loc_1 (one_e (by have:=esz_ok he; omega)) (by simp) (wf_loc h2 (by omega))) (loc_1 (one_e (by have:=esz_ok he; omega)) (by simp) (wf_loc h3 (by omega)))
  ·cases hr
 split at hr
 ·unfold ru9 at hr
  split at hr
  ·rename_i hk
   obtain ⟨k,f,rfl,rfl,h1⟩:=wf_7 h hk.1
   cases hr
   exact wf_loc h1 (by omega)
  ·cases hr
 split at hr
 ·unfold ru10 at hr
  split at hr
  ·rename_i hk
   obtain ⟨e,k,f,rfl,rfl,h1,he⟩:=wf_2 h hk.1
   obtain ⟨es,x,g,u,rfl,rfl,rfl,h2,hl,hes⟩:=wf_3 h1 hk.2
   cases hr
   simp only [fiP,eOf_mk,kOf_mk,lOf_mk,Pl.k,Pl.es,Pl.ks]
   exact loc_1 (fun x hx=>by have:=esz_ok (hes x hx); omega) hl.2 (loc_1 (one_e (esz_sub he (fun b hb=>esz_ok (hes b hb)))) (by simp) (wf_loc h2 (by omega)))
  ·cases hr
 split at hr
 ·unfold ru11 at hr
  split at hr
  ·rename_i hk
   obtain ⟨es,k,f,u,rfl,rfl,rfl,h1,hl,hes⟩:=wf_3 h hk.1
   obtain ⟨fs,x,g,v,rfl,rfl,rfl,h2,hl2,hfs⟩:=wf_3 h1 hk.2
   cases hr
   simp only [fiP,eOf_mk,kOf_mk,lOf_mk,Pl.k,Pl.es,Pl.ks]
   exact loc_1 (fun x hx=>by
    obtain ⟨y,hy,rfl⟩:=List.mem_map.1 hx
    exact esz_sub (hes y hy) (fun b hb=>esz_ok (hfs b hb))) (by rw [List.length_map]; exact hl.2) (wf_loc h2 (by omega))
  ·cases hr
 cases hr
theorem rep_loc : ∀ (l : List Int) {p a q : Pl},paOf p l = some a → Loc p → Loc q → Loc (repP p l q):=by
 intro l
 induction l with
 | nil=>intro p a q _ _ hq; exact hq
 | cons i l ih=>
  intro p a q ha hp hq
  rw [paOf] at ha
  cases hk : kidAt p i with
  | none=>rw [hk] at ha; cases ha
  | some x=>
   rw [hk] at ha
   obtain ⟨_,_,hx⟩:=kidAt_some hk
   obtain ⟨l1,l2,l3,l4,l5⟩:=hp.own
   have h2 : p.ks.getD i.toNat zP = x:=by rw [List.getD_eq_getElem?_getD,hx]; rfl
   have h1:=ih (show paOf x l = some a from ha) (l5 x (List.mem_of_getElem? hx)) hq
   rw [rep_cons,h2]
   exact .mk l1 l2 (by show (p.ks.set _ _).length ≤ _; rw [List.length_set]; exact l3) l4 (fun y hy=>by
    rcases List.mem_or_eq_of_mem_set hy with hy | rfl
    ·exact l5 y hy
    ·exact h1)
end Go.Proofs.YtgpdmgaemhelgaaGreat
set_option maxHeartbeats 4000000
set_option maxRecDepth 100000
set_option linter.unusedVariables false
set_option linter.unusedSimpArgs false
namespace Go.Proofs.YtgpdmgaemhelgaaGreat
open Go.RowKit
mutual
def pathsP : Pl → List Int → List (List Int)
 | .mk _ _ _ _ ks,pre=>pre :: pathsL ks pre 0
def pathsL : List Pl → List Int → Nat → List (List Int)
 | [],_,_=>[]
 | p :: l,pre,i=>pathsP p (pre ++ [(i : Int)]) ++ pathsL l pre (i + 1)
end
theorem pathsP_eq (p : Pl) (pre : List Int) : pathsP p pre = pre :: pathsL p.ks pre 0:=by cases p; rfl
theorem pathsL_append : ∀ (l m : List Pl) (pre : List Int) (i : Nat),pathsL (l ++ m) pre i = pathsL l pre i ++ pathsL m pre (i + l.length)
 | [],m,pre,i=>by rw [List.nil_append,pathsL,List.nil_append]; rfl
 | p :: l,m,pre,i=>by
  rw [List.cons_append,pathsL,pathsL,pathsL_append l m,List.append_assoc,List.length_cons]
  congr 3
  omega
theorem pathsL_next {ks : List Pl} {pre : List Int} {i : Nat} {x : Pl} (h : ks[i]? = some x) : pathsL (ks.take (i + 1)) pre 0 = pathsL (ks.take i) pre 0 ++ pathsP x (pre ++ [(i : Int)]):=by
 have hl:=(List.getElem?_eq_some_iff.1 h).1
 rw [take_next h,pathsL_append,pathsL,pathsL,List.append_nil,Nat.zero_add,List.length_take,Nat.min_eq_left (by omega)]
mutual
theorem pathsP_len : ∀ (p : Pl) (pre : List Int),(pathsP p pre).length ≤ 1 + psz p
 | .mk k t es cs ks,pre=>by
  have:=pathsL_len ks pre 0
  rw [pathsP,List.length_cons,psz]
  omega
theorem pathsL_len : ∀ (l : List Pl) (pre : List Int) (i : Nat),(pathsL l pre i).length ≤ pszL l
 | [],pre,i=>Nat.zero_le _
 | p :: l,pre,i=>by
  have h1:=pathsP_len p (pre ++ [(i : Int)])
  have h2:=pathsL_len l pre (i + 1)
  rw [pathsL,List.length_append,pszL]
  omega
end
theorem pathsL_mem : ∀ {l : List Pl} {pre : List Int} {i : Nat} {x : List Int},x ∈ pathsL l pre i → ∃ (j : Nat) (p : Pl),p ∈ l ∧ x ∈ pathsP p (pre ++ [(j : Int)])
 | [],pre,i,x,h=>by cases h
 | p :: l,pre,i,x,h=>by
  rw [pathsL,List.mem_append] at h
  rcases h with h | h
  ·exact ⟨i,p,List.mem_cons_self ..,h⟩
  ·obtain ⟨j,q,hq,hx⟩:=pathsL_mem h
   exact ⟨j,q,List.mem_cons_of_mem _ hq,hx⟩
theorem pathsP_short {ws : List Int} {p : Pl} {d : Nat} {w : Int} (h : Wf ws p d w) : ∀ (pre l : List Int),l ∈ pathsP p pre → l.length ≤ pre.length + d:=by
 have main : ∀ {ks : List Pl} {pre l : List Int} {d : Nat},(∀ x,x ∈ ks → ∀ pre l : List Int,l ∈ pathsP x pre → l.length ≤ pre.length + d) → l ∈ pathsL ks pre 0 → l.length ≤ pre.length + (d + 1):=by
  intro ks pre l d hk hm
  obtain ⟨j,x,hx,hl⟩:=pathsL_mem hm
  have:=hk x hx _ _ hl
  rw [List.length_append,List.length_singleton] at this
  omega
 induction h with
 | @scan t d h=>
  intro pre l hl
  rw [pathsP_eq] at hl
  obtain rfl : l = pre:=by simpa [Pl.ks,pathsL] using hl
  omega
 | @filter e q d w hq he ih=>
  intro pre l hl
  rw [pathsP_eq] at hl
  rcases List.mem_cons.1 hl with rfl | hl
  ·omega
  ·exact main (fun x hx=>by obtain rfl:=List.mem_singleton.1 hx; exact ih) hl
 | @project es q d u hq hl he ih=>
  intro pre l hl
  rw [pathsP_eq] at hl
  rcases List.mem_cons.1 hl with rfl | hl
  ·omega
  ·exact main (fun x hx=>by obtain rfl:=List.mem_singleton.1 hx; exact ih) hl
 | @join k e q r d a b hk hq hr hab he ih1 ih2=>
  intro pre l hl
  rw [pathsP_eq] at hl
  rcases List.mem_cons.1 hl with rfl | hl
  ·omega
  ·exact main (fun x hx=>by
    rcases List.mem_cons.1 hx with rfl | hx
    ·exact ih1
    ·obtain rfl:=List.mem_singleton.1 hx; exact ih2) hl
 | @union q r d w hq hr ih1 ih2=>
  intro pre l hl
  rw [pathsP_eq] at hl
  rcases List.mem_cons.1 hl with rfl | hl
  ·omega
  ·exact main (fun x hx=>by
    rcases List.mem_cons.1 hx with rfl | hx
    ·exact ih1
    ·obtain rfl:=List.mem_singleton.1 hx; exact ih2) hl
 | @distinct q d w hq ih=>
  intro pre l hl
  rw [pathsP_eq] at hl
  rcases List.mem_cons.1 hl with rfl | hl
  ·omega
  ·exact main (fun x hx=>by obtain rfl:=List.mem_singleton.1 hx; exact ih) hl
 | @group cs q d w hq hc ih=>
  intro pre l hl
  rw [pathsP_eq] at hl
  rcases List.mem_cons.1 hl with rfl | hl
  ·omega
  ·exact main (fun x hx=>by obtain rfl:=List.mem_singleton.1 hx; exact ih) hl
noncomputable def stepsAt (ws : List Int) (p : Pl) (l : List Int) : Nat → List (Int × List Int)
 | 0=>[]
 | n + 1=>stepsAt ws p l n ++ if (apP ws ((n : Int) + 1) l p).isSome = true then [((n : Int) + 1,l)] else []
noncomputable def stepsTo (ws : List Int) (p : Pl) (ls : List (List Int)) : List (Int × List Int):=ls.flatMap fun l=>stepsAt ws p l 11
noncomputable def stepsP (ws : List Int) (p : Pl) : List (Int × List Int):=stepsTo ws p (pathsP p [])
theorem stepsAt_len (ws : List Int) (p : Pl) (l : List Int) : ∀ n,(stepsAt ws p l n).length ≤ n
 | 0=>Nat.le_refl _
 | n + 1=>by
  have:=stepsAt_len ws p l n
  rw [stepsAt,List.length_append]
  split
  ·rw [List.length_singleton]; omega
  ·rw [List.length_nil]; omega
theorem stepsTo_next {ws : List Int} {p : Pl} {ls : List (List Int)} {i : Nat} {l : List Int} (h : ls[i]? = some l) : stepsTo ws p (ls.take (i + 1)) = stepsTo ws p (ls.take i) ++ stepsAt ws p l 11:=by
 unfold stepsTo
 rw [take_next h,List.flatMap_append]
 simp
theorem stepsTo_len (ws : List Int) (p : Pl) : ∀ ls : List (List Int),(stepsTo ws p ls).length ≤ 11 * ls.length
 | []=>Nat.zero_le _
 | l :: ls=>by
  have h1:=stepsTo_len ws p ls
  have h2:=stepsAt_len ws p l 11
  unfold stepsTo at h1 ⊢
  rw [List.flatMap_cons,List.length_append,List.length_cons]
  omega
theorem stepsAt_mem {ws : List Int} {p : Pl} {l : List Int} {s : Int × List Int} : ∀ {n : Nat},s ∈ stepsAt ws p l n → s.2 = l ∧ 1 ≤ s.1 ∧ s.1 ≤ n
 | 0,h=>by cases h
 | n + 1,h=>by
  rw [stepsAt,List.mem_append] at h
  rcases h with h | h
  ·have:=stepsAt_mem h
   exact ⟨this.1,this.2.1,by omega⟩
  ·split at h
   ·obtain rfl:=List.mem_singleton.1 h
    exact ⟨rfl,by show (1 : Int) ≤ n + 1; omega,by show (n : Int) + 1 ≤ _; omega⟩
   ·cases h
theorem stepsP_mem {ws : List Int} {p : Pl} {s : Int × List Int} (h : s ∈ stepsP ws p) : s.2 ∈ pathsP p [] ∧ 1 ≤ s.1 ∧ s.1 ≤ 11:=by
 obtain ⟨l,hl,hs⟩:=List.mem_flatMap.1 h
 have:=stepsAt_mem hs
 exact ⟨by rw [this.1]; exact hl,this.2⟩
end Go.Proofs.YtgpdmgaemhelgaaGreat
set_option maxHeartbeats 4000000
set_option maxRecDepth 100000
set_option linter.unusedVariables false
set_option linter.unusedSimpArgs false
namespace Go.Proofs.YtgpdmgaemhelgaaGreat
open Go.RowKit
def cD (c : Int) : D:=.agg [I 1,I c,Bo false,I 0,.nul]
def ciL (b : Int) (n : Nat) : List Int:=(List.range n).map fun i : Nat=>b + i
theorem ciL_len (b : Int) (n : Nat) : (ciL b n).length = n:=by unfold ciL; rw [List.length_map,List.length_range]
theorem ciL_get {b : Int} {n i : Nat} (h : i < n) : (ciL b n)[i]? = some (b + i):=by
 unfold ciL
 rw [List.getElem?_map,List.getElem?_range h]
 rfl
theorem colF_ci (b : Int) (n : Nat) : colF b n = (ciL b n).map (fun c=>E.mk 1 c ⟨false,0⟩ []):=by
 unfold colF ciL
 rw [List.map_map]
 rfl
theorem cD_sub (l : List Int) : Sub (.sl 5 (l.map cD)) (.sl 5 ((l.map (fun c=>E.mk 1 c ⟨false,0⟩ [])).map eD)):=by
 rw [List.map_map]
 refine Sub.slmap _ _ _ (fun a ha=>?_) (fun a ha=>?_)
 ·show (eD (E.mk 1 a ⟨false,0⟩ [])).cells.length = 5
  rw [eD_eq]; rfl
 ·show SubL (cD a).cells (eD (E.mk 1 a ⟨false,0⟩ [])).cells
  rw [eD_eC]
  exact leafC a
theorem cD_pur : ∀ l : List Int,D.purL (l.map cD) = true
 | []=>rfl
 | a :: l=>by rw [List.map_cons,D.purL,cD_pur l]; rfl
theorem cD_ren (L : List Nat) (l : List Int) : D.renL L (l.map cD) = l.map cD:=ren_pure.renL_pure L _ (cD_pur l)
attribute [go_sem] cD_pur cD_ren
theorem columnsFrom_own (b : Int) (n : Nat) (hb : 0 ≤ b ∧ b ≤ 1000) (hn : n ≤ 1000) : Does Tryz.prog 142 [] [I b,I n] (.own 1000000 5 n) [.row 5 ((ciL b n).map cD)]:=by
 have hcl:=ciL_len b n
 refine Bk c_Z65 mixed 0 (go1 trivial ?_)
 refine dw_for (c:=1) (l:=fun i=>[(0,I b),(1,I n),(5,.own 1000000 5 i),(6,I i),(1000000,.row 5 (((ciL b n).take i).map cD))]) n (fun _=>True) 0 trivial ((wk_row 5 2000090 5 (by decide) (by decide) rfl rfl).trans (Wk.list [2000090] rfl rfl ?_)) (fun i hi _=>?_) (Nat.zero_le _)
 ·repeat' (first|(conv in hold _=>simp (disch:=omega) only [go_sem])|exact trivial|exact Sub.refl _|omega)
  (repeat' apply And.intro) <;> rfl
 ·have htl : ((ciL b n).take i).length = i:=by rw [List.length_take]; omega
  have hmk:=take_map cD (vs:=ciL b n) (i:=i) (by omega)
  by_cases hil : i < n
  ·have hnx:=take_next (ciL_get (b:=b) hil)
   refine go1 trivial ?_
   refine ⟨hil,trivial,Wk.list [2000019] rfl rfl ?_⟩
   repeat' (first|(conv in hold _=>simp (disch:=omega) only [go_sem,List.length_map,htl])|exact trivial|exact Sub.refl _|omega)
   rw [hmk,hnx,List.map_append,List.map_cons,List.map_nil]
   rfl
  ·obtain rfl : i = n:=by omega
   have e1 : (ciL b i).take i = ciL b i:=List.take_of_length_le (by omega)
   rw [e1]
   refine go1 trivial ?_
   refine fin_L [1000000] ?_ ?_ rfl ?_
   all_goals exact Ag trivial
theorem columnList_own (a b : Int) (ha : 0 ≤ a ∧ a ≤ 1000) (hb : 0 ≤ b ∧ b ≤ 1000) : Does Tryz.prog 175 [] [I a,I (a + b)] (.own 1000000 1 b.toNat) [.row 1 ((nulC a b).map I)]:=by
 have hcl : (nulC a b).length = b.toNat:=by unfold nulC; rw [List.length_map,List.length_range]
 have hget : ∀ i : Nat,i < b.toNat → (nulC a b)[i]? = some (a + (i : Int)):=fun i hi=>by
  unfold nulC
  rw [List.getElem?_map,List.getElem?_range hi]
  rfl
 refine Bk c_Z79 mixed 0 (go1 trivial ?_)
 refine dw_for (c:=1) (l:=fun i=>[(1,I (a + b)),(5,.own 1000000 1 i),(6,I (a + i)),(1000000,.row 1 (((nulC a b).take i).map I))]) b.toNat (fun _=>True) 0 trivial ((wk_row 5 2000090 1 (by decide) (by decide) rfl rfl).trans (Wk.list [2000090] rfl rfl ?_)) (fun i hi _=>?_) (Nat.zero_le _)
 ·repeat' (first|(conv in hold _=>simp (disch:=omega) only [go_sem])|exact trivial|exact Sub.refl _|omega)
  (repeat' apply And.intro) <;> first | rfl | exact congrArg (fun n=>D.v (Value.int .i64 n)) (by omega)
 ·have htl : ((nulC a b).take i).length = i:=by rw [List.length_take]; omega
  have hmk:=take_map I (vs:=nulC a b) (i:=i) (by omega)
  by_cases hil : i < b.toNat
  ·have hnx:=take_next (hget i hil)
   refine go1 trivial ?_
   refine ⟨hil,trivial,Wk.list [2000017] rfl rfl ?_⟩
   repeat' (first|(conv in hold _=>simp (disch:=omega) only [go_sem,List.length_map,htl])|exact trivial|exact Sub.refl _|omega)
   (repeat' apply And.intro) <;> first | rfl | exact congrArg (fun n=>D.v (Value.int .i64 n)) (by omega) | (rw [hmk,hnx,List.map_append]; rfl)
  ·obtain rfl : i = b.toNat:=by omega
   have e1 : (nulC a b).take b.toNat = nulC a b:=List.take_of_length_le (by omega)
   rw [e1]
   refine go1 trivial ?_
   refine fin_L [1000000] ?_ ?_ rfl ?_
   all_goals exact Ag trivial
theorem within_ok (e : E) (h : eOk e 6 8) (lo hi : Int) : Does Tryz.prog 173 [] [eD e,I lo,I hi] (Bo (decide (∀ c,c ∈ marked (occ e) 6 → lo ≤ (c : Int) ∧ (c : Int) ≤ hi))) []:=by
 have hac : Does Tryz.prog 186 [] [.nul,eD e] (.sl 1 (colsL (occ e) 6)) []:=by
  have:=addColumns_ok e 8 h (fun _=>false)
  rw [show colsL (fun _=>false) 6 = [] from rfl,show (fun j=>false || occ e j) = occ e from funext fun j=>Bool.false_or _] at this
  exact this.weak ⟨Sub.nul 1,Sub.refl _,trivial⟩ (Sub.refl _)
 have hasc:=marked_asc (occ e) 6
 have hml:=marked_len (occ e) 6
 unfold colsL at hac
 generalize marked (occ e) 6 = l at *
 cases l with
 | nil=>
  rw [decide_eq_true (fun c hc=>by cases hc)]
  refine Bg c_Z146 mixed (go1 trivial ?_)
  exact Uc trivial (hac) (go0 trivial)
 | cons a l=>
  obtain ⟨z,hz⟩ : ∃ z,(a :: l)[(a :: l).length - 1]? = some z:=⟨_,List.getElem?_eq_getElem (by simp)⟩
  have hf:=asc_first hasc
  have hla:=asc_last _ hasc z hz
  have hzm:=List.mem_of_getElem? hz
  have hz2 : (((a :: l).map fun j : Nat=>I (j : Int))[l.length]?) = some (I z):=by
   rw [List.getElem?_map]
   have : (a :: l).length - 1 = l.length:=by simp
   rw [this] at hz
   rw [hz]
   rfl
  have hll : ((a :: l).map fun j : Nat=>I (j : Int)).length = l.length + 1:=by simp
  have hg0 : (((a :: l).map fun j : Nat=>I (j : Int))[0]?) = some (I a):=rfl
  have hiff : (∀ c,c ∈ a :: l → lo ≤ (c : Int) ∧ (c : Int) ≤ hi) ↔ lo ≤ (a : Int) ∧ (z : Int) ≤ hi:=by
   constructor
   ·intro h
    exact ⟨(h a (List.mem_cons_self ..)).1,(h z hzm).2⟩
   ·intro h c hc
    have h1:=hf c hc
    have h2:=hla c hc
    omega
  rw [decide_eq_decide.2 hiff]
  obtain ⟨ds,hds⟩ : ∃ ds,ds = (a :: l).map (fun j : Nat=>I (j : Int)):=⟨_,rfl⟩
  rw [← hds] at hac hz2 hll hg0
  clear hds
  have hl5 : l.length ≤ 5:=by simp at hml; omega
  by_cases h1 : lo ≤ (a : Int)
  ·refine Bg c_Z146 mixed (go1 trivial ?_)
   refine Uc (cj3 @hll @hg0 @hz2) (hac) (go1 (cj3 @hll @hg0 @hz2) ?_)
   all_goals exact sub_iff (by simp; omega)
  ·rw [decide_eq_false (fun h=>h1 h.1)]
   refine Bg c_Z146 mixed (go1 trivial ?_)
   exact Uc (cj3 @hll @hg0 @hz2) (hac) (go0 (cj3 @hll @hg0 @hz2))
theorem rejects_ok {e : E} {w : Nat} (hw : w ≤ 6) (ns : List Int) (hl : ns.length ≤ 1048576) (he : eOk e w 8) : Does Tryz.prog 174 [] [eD e,I w,intsD ns] (Bo (intBit .and .i64 (oc e (stL ns w)) 2 == 0)) []:=by
 have hsl:=stL_len ns w
 have h4:=nullStates_ok w (by omega) ns hl
 obtain ⟨_,hA,_⟩:=oc_ok (stL_ok ns w) (by kernel_rfl) (by kernel_rfl) e 8 (by rw [hsl]; exact he)
 generalize oc e (stL ns w) = n at *
 refine Bg c_Z138 mixed (go1 trivial ?_)
 refine Uc trivial (h4) (go1 trivial ?_)
 exact Uc trivial (hA) (go0 trivial)
theorem planW {ws : List Int} (hw : wsOk ws) {p : Pl} {d : Nat} {w : Int} (h : Wf ws p d w) (hd : d ≤ 8) : Does Tryz.prog 95 [] [pD p,intsD ws,I 8] (I w) [] ∧ wdV ws p 8 = w:=by
 have h8:=wf_mono hw h hd
 obtain ⟨h1,h2⟩:=wf_to hw h8
 have hs:=wf_size h8
 rw [pw_8] at hs
 obtain ⟨_,h3,_⟩:=width_loc hw p (loc_of p (by omega)) 8 (by decide)
 rw [h1] at h3
 exact ⟨h3,h1⟩
end Go.Proofs.YtgpdmgaemhelgaaGreat
set_option maxHeartbeats 4000000
set_option maxRecDepth 100000
set_option linter.unusedVariables false
set_option linter.unusedSimpArgs false
namespace Go.Proofs.YtgpdmgaemhelgaaGreat
open Go.RowKit
theorem I_sub1 (i n : Nat) : I ((n : Int) - i - 1) = I ((n : Int) - (i + 1)):=congrArg I (by omega)
theorem somePath_ok {bs : List Nat} (hs : Src bs) (p : Nat) (hp : p < 600000000) : ∃ (l : List Int) (q : Nat),Does Tryz.prog 83 [rdD bs p] [.ref 1000000 0] (intsD l) [rdD bs q] ∧ l.length ≤ 3 ∧ p ≤ q ∧ q ≤ p + 10:=by
 obtain ⟨k,hk,k0,k1,_⟩:=pick_ok hs p (by omega) 4 (by omega)
 have hk1:=k1 (by omega)
 obtain ⟨n,rfl⟩:=Int.eq_ofNat_of_zero_le k0
 obtain ⟨xs,ps,hl,h0,hd,hp0,hp1⟩:=draws (fun p (x : Int) q=>q = p + 1 ∧ Does Tryz.prog 82 [rdD bs p] [.ref 1000000 0,.sl 1 ([0,0,0,1,2,-1].map I)] (I x) [rdD bs q]) 700000000 1 (fun p hp=>by
  obtain ⟨x,hx,_⟩:=one_ok hs p (by omega) [0,0,0,1,2,-1] (by decide) (by decide)
  exact ⟨x,p + 1,⟨rfl,hx⟩,by omega,by omega⟩) n (p + 1) (by omega)
 refine ⟨xs,ps n,?_,by omega,by omega,by omega⟩
 refine Bk c_Z127 mixed 1 (go1 trivial ?_)
 refine UcR [1000000] trivial (hk) (go1 trivial ?_)
 refine dw_for (c:=2) (l:=fun i=>[(0,.ref 1000000 0),(3,.own 1000001 1 i),(4,I ((n : Int) - i)),(1000000,rdD bs (ps i)),(1000001,.row 1 ((xs.take i).map I))]) n (fun _=>True) 0 trivial ((wk_row 3 2000017 1 (by decide) (by decide) rfl rfl).trans (Wk.list [1000000,2000017] rfl rfl ?_)) (fun i hi _=>?_) (Nat.zero_le _)
 ·rw [h0]
  repeat' (first|(conv in hold _=>simp (disch:=omega) only [go_sem])|exact trivial|exact Sub.refl _|omega)
  (repeat' apply And.intro) <;> rfl
 ·have htl : (xs.take i).length = i:=by rw [List.length_take]; omega
  have hmt:=take_map I (vs:=xs) (i:=i) (by omega)
  by_cases hil : i < n
  ·obtain ⟨v,hv⟩ : ∃ v,xs[i]? = some v:=⟨_,List.getElem?_eq_getElem (by omega)⟩
   have hdi:=hd i v hv
   have hnx:=take_next hv
   refine go1 trivial ?_
   refine UcR [1000000] trivial (hdi.2) (go1 trivial ?_)
   refine ⟨hil,trivial,Wk.list [1000000,2000017] rfl rfl ?_⟩
   repeat' (first|(conv in hold _=>simp (disch:=omega) only [go_sem,List.length_map,htl])|exact trivial|exact Sub.refl _|omega)
   exact ⟨I_sub1 i n,by rw [hmt,hnx,List.map_append]; rfl⟩
  ·obtain rfl : i = n:=by omega
   have e1 : xs.take i = xs:=List.take_of_length_le (by omega)
   have e2 : (xs.map I).take i = xs.map I:=List.take_of_length_le (by rw [List.length_map]; omega)
   have e0 : (i : Int) - (i : Int) = 0:=by omega
   have e4 : (xs.map I).length = i:=by rw [List.length_map]; omega
   refine go1F (cj2 @e1 @e0) ?_
   refine fin_wk (wk_frz 2 1000001 (by decide) (by decide) rfl ?_) ?_
   rotate_left
   (conv in hold _=>simp (disch:=omega) only [go_sem,e2,e4,Nat.le_refl])
   ·refine fin_L [1000000] ?_ ?_ rfl ?_
    all_goals exact Ag @intsD.eq_1
   ·exact ints_pur _
end Go.Proofs.YtgpdmgaemhelgaaGreat
