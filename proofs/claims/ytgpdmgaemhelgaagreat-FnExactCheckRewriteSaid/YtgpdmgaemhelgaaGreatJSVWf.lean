/-
  The tables that a plan scans. No condition.
-/
import Derived.Test.YtgpdmgaemhelgaaGreatKSDca
import Derived.Test.YtgpdmgaemhelgaaGreatJSDck
import Derived.Test.YtgpdmgaemhelgaaGreatJSVWidE
import Derived.Test.YtgpdmgaemhelgaaGreatJSVWidF
import Derived.Test.YtgpdmgaemhelgaaGreatJSVGo
import Derived.Test.YtgpdmgaemhelgaaGreatJSDch
import Derived.Test.YtgpdmgaemhelgaaGreatJSVLoc
import Derived.Test.YtgpdmgaemhelgaaGreatJSVYld
import Derived.Test.YtgpdmgaemhelgaaGreatJSVSmS
set_option maxHeartbeats 4000000
set_option maxRecDepth 100000
set_option linter.unusedVariables false
set_option linter.unusedSimpArgs false
namespace Go.Proofs.YtgpdmgaemhelgaaGreat
open Go.RowKit
mutual
def scn (t : Int) : Pl → Bool
 | .mk k tb _ _ ks=>if k = 1 then tb == t else scnL t ks
def scnL (t : Int) : List Pl → Bool
 | []=>false
 | p :: l=>scn t p || scnL t l
end
theorem scnL_any (t : Int) : ∀ l : List Pl,scnL t l = l.any (scn t)
 | []=>by rw [scnL]; rfl
 | p :: l=>by rw [scnL,scnL_any t l,List.any_cons]
theorem scn_eq (t : Int) (p : Pl) : scn t p = if p.k = 1 then p.t == t else p.ks.any (scn t):=by
 cases p
 rw [scn,scnL_any]
 rfl
def placeL {α : Type} (p : α → Bool) (l : List α) : Int:=if l.any p then (l.findIdx p : Int) else -1
theorem placeL_at {α : Type} {p : α → Bool} {l : List α} {i : Nat} {x : α} (hx : l[i]? = some x) (hp : p x = true) (h : ∀ (j : Nat) (u : α),j < i → l[j]? = some u → p u = false) : placeL p l = i:=by
 have hlt:=(List.getElem?_eq_some_iff.1 hx).1
 have hxe:=(List.getElem?_eq_some_iff.1 hx).2
 have h1 : l.findIdx p = i:=(List.findIdx_eq hlt).2 ⟨by rw [hxe]; exact hp,fun j hj=>h j _ hj (List.getElem?_eq_getElem (by omega))⟩
 unfold placeL
 rw [if_pos (List.any_eq_true.2 ⟨x,List.mem_of_getElem? hx,hp⟩),h1]
theorem placeL_none {α : Type} {p : α → Bool} {l : List α} (h : ∀ u,u ∈ l → p u = false) : placeL p l = -1:=by
 unfold placeL
 rw [if_neg]
 intro ha
 obtain ⟨x,hx,hp⟩:=List.any_eq_true.1 ha
 rw [h x hx] at hp
 cases hp
theorem placeL_pos {α : Type} (p : α → Bool) (l : List α) : (0 ≤ placeL p l) ↔ l.any p = true:=by
 unfold placeL
 by_cases h : l.any p = true
 ·rw [if_pos h]; exact ⟨fun _=>h,fun _=>by omega⟩
 ·rw [if_neg h]; exact ⟨fun h'=>by omega,fun h'=>absurd h' h⟩
end Go.Proofs.YtgpdmgaemhelgaaGreat
set_option maxHeartbeats 4000000
set_option maxRecDepth 100000
set_option linter.unusedVariables false
set_option linter.unusedSimpArgs false
namespace Go.Proofs.YtgpdmgaemhelgaaGreat
open Go.RowKit
def PlanAt (bs : List Nat) (ws : List Int) (p j u d : Nat) (S K : Nat) : Prop:=∃ (x : Pl) (q j' u' : Nat),(DPlan bs ws p j u d x q j' u' ∧ OPlan bs ws p j u d x q j' u') ∧ p ≤ q ∧ q ≤ p + K ∧ psz x ≤ S ∧ j' ≤ j ∧ u' ≤ u ∧ rb x ≤ capB (j - j') (u - u') ∧ (x.k = 6 → x.es = [])
theorem PlanAt.wide {bs : List Nat} {ws : List Int} {p j u d S K S' K' : Nat} (h : PlanAt bs ws p j u d S K) (hS : S ≤ S') (hK : K ≤ K') : PlanAt bs ws p j u d S' K':=by
 obtain ⟨x,q,j',u',h0,h1,h2,h3,h4,h5,h6,h7⟩:=h
 exact ⟨x,q,j',u',h0,h1,by omega,by omega,h4,h5,h6,h7⟩
end Go.Proofs.YtgpdmgaemhelgaaGreat
set_option maxHeartbeats 4000000
set_option maxRecDepth 100000
set_option linter.unusedVariables false
set_option linter.unusedSimpArgs false
namespace Go.Proofs.YtgpdmgaemhelgaaGreat
open Go.RowKit
inductive Wf (ws : List Int) : Pl → Nat → Int → Prop
 | scan {t : Int} {d : Nat} (h : scanV ws t ≠ 0) : Wf ws (.mk 1 t [] [] []) d (scanV ws t)
 | filter {e : E} {q : Pl} {d : Nat} {w : Int} (hq : Wf ws q d w) (he : eOk e w 8) : Wf ws (.mk 2 0 [e] [] [q]) (d + 1) w
 | project {es : List E} {q : Pl} {d : Nat} {u : Int} (hq : Wf ws q d u) (hl : 1 ≤ es.length ∧ es.length ≤ 6) (he : ∀ e,e ∈ es → eOk e u 8) : Wf ws (.mk 3 0 es [] [q]) (d + 1) es.length
 | join {k : Int} {e : E} {q r : Pl} {d : Nat} {a b : Int} (hk : k = 4 ∨ k = 5) (hq : Wf ws q d a) (hr : Wf ws r d b) (hw : a + b ≤ 6) (he : eOk e (a + b) 8) : Wf ws (.mk k 0 [e] [] [q,r]) (d + 1) (a + b)
 | union {q r : Pl} {d : Nat} {w : Int} (hq : Wf ws q d w) (hr : Wf ws r d w) : Wf ws (.mk 6 0 [] [] [q,r]) (d + 1) w
 | distinct {q : Pl} {d : Nat} {w : Int} (hq : Wf ws q d w) : Wf ws (.mk 7 0 [] [] [q]) (d + 1) w
 | group {cs : List Int} {q : Pl} {d : Nat} {w : Int} (hq : Wf ws q d w) (hc : cs.length < 6 ∧ colsOk cs w) : Wf ws (.mk 8 0 [] cs [q]) (d + 1) (cs.length + 1)
theorem sum_1 (a : Int) : [a].sum = a:=by simp
theorem sum_2 (a b : Int) : [a,b].sum = a + b:=by simp
theorem wf_of {ws : List Int} : ∀ (p : Pl) (d : Nat),wdV ws p d ≠ 0 → Wf ws p d (wdV ws p d):=by
 refine Pl.indA (fun p ih d h=>?_)
 have hf:=wd_fields h
 obtain ⟨k,t,es,cs,ks⟩:=p
 by_cases hk : k = 1
 ·obtain ⟨h1,_⟩:=wd_scan h hk
  simp only [fields,Pl.k,Pl.t,Pl.es,Pl.cs,Pl.ks] at hf
  have e1 : es.length = 0:=by omega
  have e2 : cs.length = 0:=by omega
  have e3 : ks.length = 0:=by omega
  obtain rfl:=List.length_eq_zero_iff.1 e1
  obtain rfl:=List.length_eq_zero_iff.1 e2
  obtain rfl:=List.length_eq_zero_iff.1 e3
  subst hk
  rw [h1] at h ⊢
  exact Wf.scan h
 ·obtain ⟨hd,_⟩:=wd_res h hk
  obtain ⟨⟨hI,hfit⟩,hfr,hkid⟩:=wd_fit h hk
  obtain ⟨d,rfl⟩ : ∃ d',d = d' + 1:=⟨d - 1,by omega⟩
  rw [hfr]
  clear h hfr
  simp only [fields,Pl.k,Pl.t,Pl.es,Pl.cs,Pl.ks] at hf
  have hI3 : k = 3 → 1 ≤ es.length ∧ es.length ≤ 6:=hI.2
  have ht : t = 0:=by omega
  subst ht
  simp only [Pl.ks,Nat.add_sub_cancel] at hkid hfit ⊢
  by_cases hk2 : k = 4 ∨ k = 5 ∨ k = 6
  ·have hl : ks.length = 2:=by omega
   obtain ⟨q,r,rfl⟩ : ∃ q r,ks = [q,r]:=by
    match ks,hl with
    | [q,r],_=>exact ⟨q,r,rfl⟩
   have hq:=ih q (by simp [Pl.ks]) d (hkid q (by simp))
   have hr:=ih r (by simp [Pl.ks]) d (hkid r (by simp))
   simp only [List.map_cons,List.map_nil] at hfit ⊢
   unfold fitsV at hfit
   by_cases h6 : k = 6
   ·have e1 : es.length = 0:=by omega
    have e2 : cs.length = 0:=by omega
    obtain rfl:=List.length_eq_zero_iff.1 e1
    obtain rfl:=List.length_eq_zero_iff.1 e2
    subst h6
    rw [if_pos (show (Pl.mk 6 0 [] [] [q,r]).k = 6 from rfl)] at hfit
    have he : wdV ws q d = wdV ws r d:=hfit
    rw [show fromV (.mk 6 0 [] [] [q,r]) [wdV ws q d,wdV ws r d] = wdV ws q d from rfl]
    rw [← he] at hr
    exact Wf.union hq hr
   ·have e1 : es.length = 1:=by omega
    have e2 : cs.length = 0:=by omega
    obtain ⟨e,rfl⟩ : ∃ e,es = [e]:=by
     match es,e1 with
     | [e],_=>exact ⟨e,rfl⟩
    obtain rfl:=List.length_eq_zero_iff.1 e2
    rw [if_neg (show ¬ (Pl.mk k 0 [e] [] [q,r]).k = 6 from h6),if_neg (show ¬ (Pl.mk k 0 [e] [] [q,r]).k = 8 from by show ¬ k = 8; omega)] at hfit
    unfold fromV
    rw [if_neg (show ¬ (Pl.mk k 0 [e] [] [q,r]).k = 3 from by show ¬ k = 3; omega),if_pos (show (Pl.mk k 0 [e] [] [q,r]).k = 4 ∨ (Pl.mk k 0 [e] [] [q,r]).k = 5 from by show k = 4 ∨ k = 5; omega),sum_2]
    obtain ⟨h1,h2⟩:=hfit 0 e rfl
    rw [sum_2] at h1 h2
    exact Wf.join (by omega) hq hr h1.2 h2
  ·have hl : ks.length = 1:=by omega
   obtain ⟨q,rfl⟩ : ∃ q,ks = [q]:=by
    match ks,hl with
    | [q],_=>exact ⟨q,rfl⟩
   have hq:=ih q (by simp [Pl.ks]) d (hkid q (by simp))
   simp only [List.map_cons,List.map_nil] at hfit ⊢
   unfold fitsV at hfit
   by_cases h8 : k = 8
   ·have e1 : es.length = 0:=by omega
    obtain rfl:=List.length_eq_zero_iff.1 e1
    subst h8
    rw [if_neg (show ¬ (Pl.mk 8 0 [] cs [q]).k = 6 from by show ¬ (8 : Int) = 6; decide),if_pos (show (Pl.mk 8 0 [] cs [q]).k = 8 from rfl)] at hfit
    rw [show fromV (.mk 8 0 [] cs [q]) [wdV ws q d] = (cs.length : Int) + 1 from rfl]
    exact Wf.group hq hfit
   ·have e2 : cs.length = 0:=by omega
    obtain rfl:=List.length_eq_zero_iff.1 e2
    rw [if_neg (show ¬ (Pl.mk k 0 es [] [q]).k = 6 from by show ¬ k = 6; omega),if_neg (show ¬ (Pl.mk k 0 es [] [q]).k = 8 from h8)] at hfit
    by_cases h7 : k = 7
    ·have e1 : es.length = 0:=by omega
     obtain rfl:=List.length_eq_zero_iff.1 e1
     subst h7
     rw [show fromV (.mk 7 0 [] [] [q]) [wdV ws q d] = wdV ws q d from rfl]
     exact Wf.distinct hq
    ·by_cases h3 : k = 3
     ·subst h3
      rw [show fromV (.mk 3 0 es [] [q]) [wdV ws q d] = (es.length : Int) from rfl]
      exact Wf.project hq (hI3 rfl) (fun e he=>by
       obtain ⟨j,hj⟩:=List.mem_iff_getElem?.1 he
       have:=(hfit j e hj).2
       rw [sum_1] at this
       exact this)
     ·have hk2 : k = 2:=by omega
      have e1 : es.length = 1:=by omega
      obtain ⟨e,rfl⟩ : ∃ e,es = [e]:=by
       match es,e1 with
       | [e],_=>exact ⟨e,rfl⟩
      subst hk2
      rw [show fromV (.mk 2 0 [e] [] [q]) [wdV ws q d] = wdV ws q d from rfl]
      have:=(hfit 0 e rfl).2
      rw [sum_1] at this
      exact Wf.filter hq this
theorem wf_to {ws : List Int} (hw : wsOk ws) {p : Pl} {d : Nat} {w : Int} (h : Wf ws p d w) : wdV ws p d = w ∧ 1 ≤ w ∧ w ≤ 6:=by
 induction h with
 | @scan t d h=>
  have:=scan_range hw t
  refine ⟨?_,by omega⟩
  rw [wd_eq,if_pos (by simp [fields,Pl.k,Pl.ks,Pl.es,Pl.cs,Pl.t])]
  rfl
 | @filter e q d w hq he ih=>
  obtain ⟨h1,h2⟩:=ih
  exact ⟨(fi_wd (by omega) (fun _=>by rw [h1]; exact he)).trans h1,h2⟩
 | @project es q d u hq hl he ih=>
  obtain ⟨h1,h2⟩:=ih
  refine ⟨(pr_wd (by omega) hl (fun _=>by rw [h1]; exact he)).trans (if_neg (by omega)),by omega⟩
 | @join k e q r d a b hk hq hr hab he ih1 ih2=>
  obtain ⟨h1,h2⟩:=ih1
  obtain ⟨h3,h4⟩:=ih2
  refine ⟨?_,by omega⟩
  have hfs : fieldsI (.mk k 0 [e] [] [q,r]):=by
   refine ⟨?_,fun h=>by simp only [Pl.k] at h; omega⟩
   simp [fields,Pl.k,Pl.ks,Pl.es,Pl.cs,Pl.t]
   omega
  rw [wd_2t (by omega) hfs (by omega) (by omega) (fits_v (by simp only [Pl.k]; omega) (by simp only [Pl.k]; omega) (fun j x hj=>by
   rw [sum_2,h1,h3]
   match j with
   | 0=>
    obtain rfl : e = x:=by simpa [Pl.es] using hj
    exact ⟨by omega,he⟩
   | j + 1=>simp [Pl.es] at hj))]
  unfold fromV
  rw [if_neg (show ¬ (Pl.mk k 0 [e] [] [q,r]).k = 3 from by show ¬ k = 3; omega),if_pos (show (Pl.mk k 0 [e] [] [q,r]).k = 4 ∨ (Pl.mk k 0 [e] [] [q,r]).k = 5 from by show k = 4 ∨ k = 5; omega),sum_2,h1,h3]
 | @union q r d w hq hr ih1 ih2=>
  obtain ⟨h1,h2⟩:=ih1
  obtain ⟨h3,h4⟩:=ih2
  refine ⟨un_wd.trans ?_,by omega⟩
  rw [if_neg (by omega),h1]
 | @distinct q d w hq ih=>
  obtain ⟨h1,h2⟩:=ih
  exact ⟨(di_wd (by omega)).trans h1,h2⟩
 | @group cs q d w hq hc ih=>
  obtain ⟨h1,h2⟩:=ih
  exact ⟨(gr_wd ⟨hc.1,fun _=>by rw [h1]; exact hc.2⟩).trans (if_neg (by omega)),by omega⟩
theorem wf_same {ws : List Int} (hw : wsOk ws) {p : Pl} {d d' : Nat} {w w' : Int} (h : Wf ws p d w) (h' : Wf ws p d' w') : w = w':=by
 obtain ⟨h1,h2⟩:=wf_to hw h
 obtain ⟨h3,h4⟩:=wf_to hw h'
 have h5:=wd_mono (ws:=ws) p d (d + d') (by omega) (by omega)
 have h6:=wd_mono (ws:=ws) p d' (d + d') (by omega) (by omega)
 omega
theorem wf_mono {ws : List Int} (hw : wsOk ws) {p : Pl} {d d' : Nat} {w : Int} (h : Wf ws p d w) (hd : d ≤ d') : Wf ws p d' w:=by
 obtain ⟨h1,h2⟩:=wf_to hw h
 have h5:=wd_mono (ws:=ws) p d d' hd (by omega)
 have:=wf_of p d' (ws:=ws) (by omega)
 rw [h5,h1] at this
 exact this
def pwB : Nat → Nat
 | 0=>0
 | 1=>3067
 | d + 2=>2 * (pwB (d + 1) + 1) + 511
theorem pw_low : ∀ d,3067 ≤ pwB (d + 1)
 | 0=>Nat.le_refl _
 | d + 1=>by have:=pw_low d; rw [pwB]; omega
theorem pw_1 (d : Nat) : pwB d + 3067 ≤ pwB (d + 1):=by
 cases d with
 | zero=>exact Nat.le_refl _
 | succ d=>have:=pw_low d; rw [pwB]; omega
theorem pw_2 (d : Nat) : 2 * (pwB d + 1) + 511 ≤ pwB (d + 1):=by
 cases d with
 | zero=>exact (by decide)
 | succ d=>rw [pwB]; omega
theorem pw_8 : pwB 8 = 457727:=by decide
theorem eszL_few {w : Int} : ∀ (es : List E),(∀ e,e ∈ es → eOk e w 8) → eszL es ≤ es.length * 511
 | [],_=>Nat.zero_le _
 | e :: l,h=>by
  have h1:=esz_small e 8 (h e (List.mem_cons_self ..)) (by decide)
  have h2:=eszL_few l (fun x hx=>h x (List.mem_cons_of_mem _ hx))
  rw [eszL,List.length_cons,Nat.add_mul]
  omega
theorem pw_mono {d d' : Nat} (h : d ≤ d') : pwB d ≤ pwB d':=by
 induction h with
 | refl=>exact Nat.le_refl _
 | @step m _ ih=>exact Nat.le_trans ih (by have:=pw_1 m; show pwB m ≤ pwB (m + 1); omega)
theorem wf_size {ws : List Int} {p : Pl} {d : Nat} {w : Int} (h : Wf ws p d w) : psz p ≤ pwB d:=by
 induction h with
 | @scan t d h=>rw [psz_eq]; exact Nat.zero_le _
 | @filter e q d w hq he ih=>
  have:=esz_small e 8 he (by decide)
  have h1:=pw_1 d
  have h2:=pw_2 d
  simp only [psz,eszL,pszL,List.length_nil]
  omega
 | @project es q d u hq hl he ih=>
  have:=eszL_few es he
  have h1:=pw_1 d
  have h2:=pw_2 d
  simp only [psz,eszL,pszL,List.length_nil]
  omega
 | @join k e q r d a b hk hq hr hab he ih1 ih2=>
  have:=esz_small e 8 he (by decide)
  have h1:=pw_1 d
  have h2:=pw_2 d
  simp only [psz,eszL,pszL,List.length_nil]
  omega
 | @union q r d w hq hr ih1 ih2=>
  have h1:=pw_1 d
  have h2:=pw_2 d
  simp only [psz,eszL,pszL,List.length_nil]
  omega
 | @distinct q d w hq ih=>
  have h1:=pw_1 d
  have h2:=pw_2 d
  simp only [psz,eszL,pszL,List.length_nil]
  omega
 | @group cs q d w hq hc ih=>
  have:=hc.1
  have h1:=pw_1 d
  have h2:=pw_2 d
  simp only [psz,eszL,pszL,List.length_nil]
  omega
end Go.Proofs.YtgpdmgaemhelgaaGreat
