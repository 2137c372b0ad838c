/-
  Plans that have a width, by their kinds. No condition.
-/
import Derived.Test.YtgpdmgaemhelgaaGreatJSVCplW
import Derived.Test.YtgpdmgaemhelgaaGreatKSDca
import Derived.Test.YtgpdmgaemhelgaaGreatJSVLaw
import Derived.Test.YtgpdmgaemhelgaaGreatJSVPlanO
import Derived.Test.YtgpdmgaemhelgaaGreatJSVYld
import Derived.Test.YtgpdmgaemhelgaaGreatJSVCols
set_option maxHeartbeats 4000000
set_option maxRecDepth 100000
set_option linter.unusedVariables false
set_option linter.unusedSimpArgs false
namespace Go.Proofs.YtgpdmgaemhelgaaGreat
open Go.RowKit
inductive Wf (ws : List Int) : Pl → Nat → Int → Prop
 | scan {t : Int} {d : Nat} (h : scanV ws t ≠ 0) : Wf ws (.mk 1 t [] [] []) d (scanV ws t)
 | filter {e : E} {q : Pl} {d : Nat} {w : Int} (hq : Wf ws q d w) (he : eOk e w 8) : Wf ws (.mk 2 0 [e] [] [q]) (d + 1) w
 | project {es : List E} {q : Pl} {d : Nat} {u : Int} (hq : Wf ws q d u) (hl : 1 ≤ es.length ∧ es.length ≤ 6) (he : ∀ e,e ∈ es → eOk e u 8) : Wf ws (.mk 3 0 es [] [q]) (d + 1) es.length
 | join {k : Int} {e : E} {q r : Pl} {d : Nat} {a b : Int} (hk : k = 4 ∨ k = 5) (hq : Wf ws q d a) (hr : Wf ws r d b) (hw : a + b ≤ 6) (he : eOk e (a + b) 8) : Wf ws (.mk k 0 [e] [] [q,r]) (d + 1) (a + b)
 | union {q r : Pl} {d : Nat} {w : Int} (hq : Wf ws q d w) (hr : Wf ws r d w) : Wf ws (.mk 6 0 [] [] [q,r]) (d + 1) w
 | distinct {q : Pl} {d : Nat} {w : Int} (hq : Wf ws q d w) : Wf ws (.mk 7 0 [] [] [q]) (d + 1) w
 | group {cs : List Int} {q : Pl} {d : Nat} {w : Int} (hq : Wf ws q d w) (hc : cs.length < 6 ∧ colsOk cs w) : Wf ws (.mk 8 0 [] cs [q]) (d + 1) (cs.length + 1)
theorem sum_1 (a : Int) : [a].sum = a:=by simp
theorem sum_2 (a b : Int) : [a,b].sum = a + b:=by simp
theorem wf_of {ws : List Int} : ∀ (p : Pl) (d : Nat),wdV ws p d ≠ 0 → Wf ws p d (wdV ws p d):=by
 refine Pl.indA (fun p ih d h=>?_)
 have hf:=wd_fields h
 obtain ⟨k,t,es,cs,ks⟩:=p
 by_cases hk : k = 1
 ·obtain ⟨h1,_⟩:=wd_scan h hk
  simp only [fields,Pl.k,Pl.t,Pl.es,Pl.cs,Pl.ks] at hf
  have e1 : es.length = 0:=by omega
  have e2 : cs.length = 0:=by omega
  have e3 : ks.length = 0:=by omega
  obtain rfl:=List.length_eq_zero_iff.1 e1
  obtain rfl:=List.length_eq_zero_iff.1 e2
  obtain rfl:=List.length_eq_zero_iff.1 e3
  subst hk
  rw [h1] at h ⊢
  exact Wf.scan h
 ·obtain ⟨hd,_⟩:=wd_res h hk
  obtain ⟨⟨hI,hfit⟩,hfr,hkid⟩:=wd_fit h hk
  obtain ⟨d,rfl⟩ : ∃ d',d = d' + 1:=⟨d - 1,by omega⟩
  rw [hfr]
  clear h hfr
  simp only [fields,Pl.k,Pl.t,Pl.es,Pl.cs,Pl.ks] at hf
  have hI3 : k = 3 → 1 ≤ es.length ∧ es.length ≤ 6:=hI.2
  have ht : t = 0:=by omega
  subst ht
  simp only [Pl.ks,Nat.add_sub_cancel] at hkid hfit ⊢
  by_cases hk2 : k = 4 ∨ k = 5 ∨ k = 6
  ·have hl : ks.length = 2:=by omega
   obtain ⟨q,r,rfl⟩ : ∃ q r,ks = [q,r]:=by
    match ks,hl with
    | [q,r],_=>exact ⟨q,r,rfl⟩
   have hq:=ih q (by simp [Pl.ks]) d (hkid q (by simp))
   have hr:=ih r (by simp [Pl.ks]) d (hkid r (by simp))
   simp only [List.map_cons,List.map_nil] at hfit ⊢
   unfold fitsV at hfit
   by_cases h6 : k = 6
   ·have e1 : es.length = 0:=by omega
    have e2 : cs.length = 0:=by omega
    obtain rfl:=List.length_eq_zero_iff.1 e1
    obtain rfl:=List.length_eq_zero_iff.1 e2
    subst h6
    rw [if_pos (show (Pl.mk 6 0 [] [] [q,r]).k = 6 from rfl)] at hfit
    have he : wdV ws q d = wdV ws r d:=hfit
    rw [show fromV (.mk 6 0 [] [] [q,r]) [wdV ws q d,wdV ws r d] = wdV ws q d from rfl]
    rw [← he] at hr
    exact Wf.union hq hr
   ·have e1 : es.length = 1:=by omega
    have e2 : cs.length = 0:=by omega
    obtain ⟨e,rfl⟩ : ∃ e,es = [e]:=by
     match es,e1 with
     | [e],_=>exact ⟨e,rfl⟩
    obtain rfl:=List.length_eq_zero_iff.1 e2
    rw [if_neg (show ¬ (Pl.mk k 0 [e] [] [q,r]).k = 6 from h6),if_neg (show ¬ (Pl.mk k 0 [e] [] [q,r]).k = 8 from by show ¬ k = 8; omega)] at hfit
    unfold fromV
    rw [if_neg (show ¬ (Pl.mk k 0 [e] [] [q,r]).k = 3 from by show ¬ k = 3; omega),if_pos (show (Pl.mk k 0 [e] [] [q,r]).k = 4 ∨ (Pl.mk k 0 [e] [] [q,r]).k = 5 from by show k = 4 ∨ k = 5; omega),sum_2]
    obtain ⟨h1,h2⟩:=hfit 0 e rfl
    rw [sum_2] at h1 h2
    exact Wf.join (by omega) hq hr h1.2 h2
  ·have hl : ks.length = 1:=by omega
   obtain ⟨q,rfl⟩ : ∃ q,ks = [q]:=by
    match ks,hl with
    | [q],_=>exact ⟨q,rfl⟩
   have hq:=ih q (by simp [Pl.ks]) d (hkid q (by simp))
   simp only [List.map_cons,List.map_nil] at hfit ⊢
   unfold fitsV at hfit
   by_cases h8 : k = 8
   ·have e1 : es.length = 0:=by omega
    obtain rfl:=List.length_eq_zero_iff.1 e1
    subst h8
    rw [if_neg (show ¬ (Pl.mk 8 0 [] cs [q]).k = 6 from by show ¬ (8 : Int) = 6; decide),if_pos (show (Pl.mk 8 0 [] cs [q]).k = 8 from rfl)] at hfit
    rw [show fromV (.mk 8 0 [] cs [q]) [wdV ws q d] = (cs.length : Int) + 1 from rfl]
    exact Wf.group hq hfit
   ·have e2 : cs.length = 0:=by omega
    obtain rfl:=List.length_eq_zero_iff.1 e2
    rw [if_neg (show ¬ (Pl.mk k 0 es [] [q]).k = 6 from by show ¬ k = 6; omega),if_neg (show ¬ (Pl.mk k 0 es [] [q]).k = 8 from h8)] at hfit
    by_cases h7 : k = 7
    ·have e1 : es.length = 0:=by omega
     obtain rfl:=List.length_eq_zero_iff.1 e1
     subst h7
     rw [show fromV (.mk 7 0 [] [] [q]) [wdV ws q d] = wdV ws q d from rfl]
     exact Wf.distinct hq
    ·by_cases h3 : k = 3
     ·subst h3
      rw [show fromV (.mk 3 0 es [] [q]) [wdV ws q d] = (es.length : Int) from rfl]
      exact Wf.project hq (hI3 rfl) (fun e he=>by
       obtain ⟨j,hj⟩:=List.mem_iff_getElem?.1 he
       have:=(hfit j e hj).2
       rw [sum_1] at this
       exact this)
     ·have hk2 : k = 2:=by omega
      have e1 : es.length = 1:=by omega
      obtain ⟨e,rfl⟩ : ∃ e,es = [e]:=by
       match es,e1 with
       | [e],_=>exact ⟨e,rfl⟩
      subst hk2
      rw [show fromV (.mk 2 0 [e] [] [q]) [wdV ws q d] = wdV ws q d from rfl]
      have:=(hfit 0 e rfl).2
      rw [sum_1] at this
      exact Wf.filter hq this
theorem wf_to {ws : List Int} (hw : wsOk ws) {p : Pl} {d : Nat} {w : Int} (h : Wf ws p d w) : wdV ws p d = w ∧ 1 ≤ w ∧ w ≤ 6:=by
 induction h with
 | @scan t d h=>
  have:=scan_range hw t
  refine ⟨?_,by omega⟩
  rw [wd_eq,if_pos (by simp [fields,Pl.k,Pl.ks,Pl.es,Pl.cs,Pl.t])]
  rfl
 | @filter e q d w hq he ih=>
  obtain ⟨h1,h2⟩:=ih
  exact ⟨(fi_wd (by omega) (fun _=>by rw [h1]; exact he)).trans h1,h2⟩
 | @project es q d u hq hl he ih=>
  obtain ⟨h1,h2⟩:=ih
  refine ⟨(pr_wd (by omega) hl (fun _=>by rw [h1]; exact he)).trans (if_neg (by omega)),by omega⟩
 | @join k e q r d a b hk hq hr hab he ih1 ih2=>
  obtain ⟨h1,h2⟩:=ih1
  obtain ⟨h3,h4⟩:=ih2
  refine ⟨?_,by omega⟩
  have hfs : fieldsI (.mk k 0 [e] [] [q,r]):=by
   refine ⟨?_,fun h=>by simp only [Pl.k] at h; omega⟩
   simp [fields,Pl.k,Pl.ks,Pl.es,Pl.cs,Pl.t]
   omega
  rw [wd_2t (by omega) hfs (by omega) (by omega) (fits_v (by simp only [Pl.k]; omega) (by simp only [Pl.k]; omega) (fun j x hj=>by
   rw [sum_2,h1,h3]
   match j with
   | 0=>
    obtain rfl : e = x:=by simpa [Pl.es] using hj
    exact ⟨by omega,he⟩
   | j + 1=>simp [Pl.es] at hj))]
  unfold fromV
  rw [if_neg (show ¬ (Pl.mk k 0 [e] [] [q,r]).k = 3 from by show ¬ k = 3; omega),if_pos (show (Pl.mk k 0 [e] [] [q,r]).k = 4 ∨ (Pl.mk k 0 [e] [] [q,r]).k = 5 from by show k = 4 ∨ k = 5; omega),sum_2,h1,h3]
 | @union q r d w hq hr ih1 ih2=>
  obtain ⟨h1,h2⟩:=ih1
  obtain ⟨h3,h4⟩:=ih2
  refine ⟨un_wd.trans ?_,by omega⟩
  rw [if_neg (by omega),h1]
 | @distinct q d w hq ih=>
  obtain ⟨h1,h2⟩:=ih
  exact ⟨(di_wd (by omega)).trans h1,h2⟩
 | @group cs q d w hq hc ih=>
  obtain ⟨h1,h2⟩:=ih
  exact ⟨(gr_wd ⟨hc.1,fun _=>by rw [h1]; exact hc.2⟩).trans (if_neg (by omega)),by omega⟩
theorem wf_same {ws : List Int} (hw : wsOk ws) {p : Pl} {d d' : Nat} {w w' : Int} (h : Wf ws p d w) (h' : Wf ws p d' w') : w = w':=by
 obtain ⟨h1,h2⟩:=wf_to hw h
 obtain ⟨h3,h4⟩:=wf_to hw h'
 have h5:=wd_mono (ws:=ws) p d (d + d') (by omega) (by omega)
 have h6:=wd_mono (ws:=ws) p d' (d + d') (by omega) (by omega)
 omega
theorem wf_mono {ws : List Int} (hw : wsOk ws) {p : Pl} {d d' : Nat} {w : Int} (h : Wf ws p d w) (hd : d ≤ d') : Wf ws p d' w:=by
 obtain ⟨h1,h2⟩:=wf_to hw h
 have h5:=wd_mono (ws:=ws) p d d' hd (by omega)
 have:=wf_of p d' (ws:=ws) (by omega)
 rw [h5,h1] at this
 exact this
def pwB : Nat → Nat
 | 0=>0
 | 1=>3067
 | d + 2=>2 * (pwB (d + 1) + 1) + 511
theorem pw_low : ∀ d,3067 ≤ pwB (d + 1)
 | 0=>Nat.le_refl _
 | d + 1=>by have:=pw_low d; rw [pwB]; omega
theorem pw_1 (d : Nat) : pwB d + 3067 ≤ pwB (d + 1):=by
 cases d with
 | zero=>exact Nat.le_refl _
 | succ d=>have:=pw_low d; rw [pwB]; omega
theorem pw_2 (d : Nat) : 2 * (pwB d + 1) + 511 ≤ pwB (d + 1):=by
 cases d with
 | zero=>exact (by decide)
 | succ d=>rw [pwB]; omega
theorem pw_8 : pwB 8 = 457727:=by decide
theorem eszL_few {w : Int} : ∀ (es : List E),(∀ e,e ∈ es → eOk e w 8) → eszL es ≤ es.length * 511
 | [],_=>Nat.zero_le _
 | e :: l,h=>by
  have h1:=esz_small e 8 (h e (List.mem_cons_self ..)) (by decide)
  have h2:=eszL_few l (fun x hx=>h x (List.mem_cons_of_mem _ hx))
  rw [eszL,List.length_cons,Nat.add_mul]
  omega
theorem pw_mono {d d' : Nat} (h : d ≤ d') : pwB d ≤ pwB d':=by
 induction h with
 | refl=>exact Nat.le_refl _
 | @step m _ ih=>exact Nat.le_trans ih (by have:=pw_1 m; show pwB m ≤ pwB (m + 1); omega)
theorem wf_size {ws : List Int} {p : Pl} {d : Nat} {w : Int} (h : Wf ws p d w) : psz p ≤ pwB d:=by
 induction h with
 | @scan t d h=>rw [psz_eq]; exact Nat.zero_le _
 | @filter e q d w hq he ih=>
  have:=esz_small e 8 he (by decide)
  have h1:=pw_1 d
  have h2:=pw_2 d
  simp only [psz,eszL,pszL,List.length_nil]
  omega
 | @project es q d u hq hl he ih=>
  have:=eszL_few es he
  have h1:=pw_1 d
  have h2:=pw_2 d
  simp only [psz,eszL,pszL,List.length_nil]
  omega
 | @join k e q r d a b hk hq hr hab he ih1 ih2=>
  have:=esz_small e 8 he (by decide)
  have h1:=pw_1 d
  have h2:=pw_2 d
  simp only [psz,eszL,pszL,List.length_nil]
  omega
 | @union q r d w hq hr ih1 ih2=>
  have h1:=pw_1 d
  have h2:=pw_2 d
  simp only [psz,eszL,pszL,List.length_nil]
  omega
 | @distinct q d w hq ih=>
  have h1:=pw_1 d
  have h2:=pw_2 d
  simp only [psz,eszL,pszL,List.length_nil]
  omega
 | @group cs q d w hq hc ih=>
  have:=hc.1
  have h1:=pw_1 d
  have h2:=pw_2 d
  simp only [psz,eszL,pszL,List.length_nil]
  omega
end Go.Proofs.YtgpdmgaemhelgaaGreat
set_option maxHeartbeats 4000000
set_option maxRecDepth 100000
set_option linter.unusedVariables false
set_option linter.unusedSimpArgs false
namespace Go.Proofs.YtgpdmgaemhelgaaGreat
open Go.RowKit
variable {bs : List Nat} {ws : List Int} {p j u d : Nat} {x : Pl} {t k6 c n : Int} {q j1 u1 : Nat}
theorem oplan_proj (h : Pre bs ws p j u d x t k6 c n q j1 u1) (hc : c = 3 ∨ c = 4) {mm : Nat} (hmm : DPick bs (q + 1) 2 mm) (hm1 : mm ≤ 1) {es : List E} {ps : Nat → Nat} (hel : es.length = 1 + mm) (h0 : ps 0 = q + 2) (hes : ∀ i e,es[i]? = some e → DOne bs n (ps i) e (ps (i + 1))) : OPlan bs ws p j u ((d + 1 : Nat) : Int) (.mk 3 0 es [] [x]) (ps (1 + mm)) j1 u1:=by
 obtain ⟨hl,hd,h1,h2,h6,hk,hw,hn,h3,hj,hu⟩:=h
 rcases hc with rfl | rfl
 all_goals
  refine Bk c_Z26 mixed 3 (go1 trivial ?_)
  refine UcR [1000001] trivial (h1) (go1 trivial ?_)
  refine UcR [1000001] trivial (h2) (go1 trivial ?_)
  refine UcR [1000000,1000001,1000002] trivial (hk) (go1 trivial ?_)
  refine UcR [1000002] trivial (hw) (go1 trivial ?_)
  refine UcR [1000001] trivial (h3) (go1 trivial ?_)
  refine UcR [1000001] trivial (hmm) (go1 trivial ?_)
  refine dw_for (c:=6) (l:=fun i=>[(4,.ref 1000003 0),(5,.ref 1000001 0),(7,.ref 1000004 0),(8,I n),(9,.own 1000005 5 i),(10,I (1 + (mm : Int) - i)),(1000000,gnD ws j1 u1),(1000001,rdD bs (ps i)),(1000002,wrD ws),(1000003,.obj [I 0,I 0,.nul,.nul,.nul]),(1000004,.obj [I x.k,I x.t,.sl 5 (x.es.map eD),.sl 1 (x.cs.map I),.sl 5 (x.ks.map pD)]),(1000005,.row 5 ((es.take i).map eD))]) (1 + mm) (fun _=>True) 0 trivial ((wk_row 9 2000099 5 (by decide) (by decide) rfl rfl).trans (Wk.list [1000000,1000001,1000002,2000004,2000007,2000099] rfl rfl ?_)) (fun i hi _=>?_) (Nat.zero_le _)
  ·rw [h0]
   repeat' (first|(conv in hold _=>simp (disch:=omega) only [go_sem])|exact trivial|exact Sub.refl _|omega)
   exact congrArg (fun n=>D.v (Value.int .i64 n)) (by omega)
  ·have hlt:=take_len (vs:=es) (i:=i) (by omega)
   have hmt:=take_map eD (vs:=es) (i:=i) (by omega)
   by_cases hil : i < 1 + mm
   ·obtain ⟨e,he1⟩ : ∃ e,es[i]? = some e:=⟨es[i],List.getElem?_eq_getElem (by omega)⟩
    obtain ⟨⟨dd,hx1,hx2⟩,_⟩:=hes i e he1
    have hnx:=take_next he1
    refine go1 trivial ?_
    refine UcR [1000001] trivial (hx1) (go1 trivial ?_)
    refine UcR [1000001] trivial (hx2) (go1 trivial ?_)
    refine ⟨by omega,trivial,Wk.list [1000000,1000001,1000002,1000003,1000004,2000072] rfl rfl ?_⟩
    repeat' (first|(conv in hold _=>simp (disch:=omega) only [go_sem])|exact trivial|exact Sub.refl _|omega)
    refine ⟨congrArg (fun n=>D.v (Value.int .i64 n)) (by omega),?_⟩
    rw [hmt,hnx,List.map_append,List.map_cons,List.map_nil,eD_eq e]
   ·obtain rfl : i = 1 + mm:=by omega
    have e1 : es.take (1 + mm) = es:=List.take_of_length_le (by omega)
    have e2 : (es.map eD).take (1 + mm) = es.map eD:=List.take_of_length_le (by rw [List.length_map]; omega)
    refine go1F @e1 ?_
    refine fin_wk (wk_rowO 1000003 2000099 1 3 (by decide) (by decide) (by decide) rfl rfl rfl) ?_
    (conv in hold _=>simp (disch:=omega) only [go_sem,e1,e2])
    refine fin_L [1000000,1000001,1000002,1000005,2000099] ?_ ?_ rfl ?_
    repeat' (first|(conv in hold _=>simp (disch:=omega) only [go_sem,e1,e2])|exact trivial|exact Sub.refl _|omega)
    exact Sub.of_eq (by rw [hel])
end Go.Proofs.YtgpdmgaemhelgaaGreat
set_option maxHeartbeats 4000000
set_option maxRecDepth 100000
set_option linter.unusedVariables false
set_option linter.unusedSimpArgs false
namespace Go.Proofs.YtgpdmgaemhelgaaGreat
open Go.RowKit
def repP : Pl → List Int → Pl → Pl
 | _,[],q=>q
 | p,i :: l,q=>.mk p.k p.t p.es p.cs (p.ks.set i.toNat (repP (p.ks.getD i.toNat zP) l q))
theorem rep_cons (p : Pl) (i : Int) (l : List Int) (q : Pl) : repP p (i :: l) q = .mk p.k p.t p.es p.cs (p.ks.set i.toNat (repP (p.ks.getD i.toNat zP) l q)):=rfl
theorem kidAt_1 {k t : Int} {es : List E} {cs : List Int} {q x : Pl} {i : Int} (h : kidAt (.mk k t es cs [q]) i = some x) : i = 0 ∧ x = q:=by
 obtain ⟨h0,h1,h2⟩:=kidAt_some h
 simp only [Pl.ks,List.length_cons,List.length_nil] at h1 h2
 obtain rfl : i = 0:=by omega
 exact ⟨rfl,by simpa using h2.symm⟩
theorem kidAt_2 {k t : Int} {es : List E} {cs : List Int} {q r x : Pl} {i : Int} (h : kidAt (.mk k t es cs [q,r]) i = some x) : (i = 0 ∧ x = q) ∨ (i = 1 ∧ x = r):=by
 obtain ⟨h0,h1,h2⟩:=kidAt_some h
 simp only [Pl.ks,List.length_cons,List.length_nil] at h1 h2
 by_cases hi : i = 0
 ·subst hi
  exact .inl ⟨rfl,by simpa using h2.symm⟩
 ·obtain rfl : i = 1:=by omega
  exact .inr ⟨rfl,by simpa using h2.symm⟩
theorem rep_wf {ws : List Int} (hw : wsOk ws) : ∀ (l : List Int) {p a : Pl} {d : Nat} {w : Int},Wf ws p d w → paOf p l = some a → ∃ (u : Int) (e : Nat),d = e + l.length ∧ Wf ws a e u ∧ (∀ q,Wf ws q e u → Wf ws (repP p l q) d w) ∧ (∀ q w',Wf ws (repP p l q) d w' → ∃ u',Wf ws q e u'):=by
 intro l
 induction l with
 | nil=>
  intro p a d w h ha
  obtain rfl : p = a:=by simpa [paOf] using ha
  exact ⟨w,d,rfl,h,fun q hq=>hq,fun q w' hq=>⟨w',hq⟩⟩
 | cons i l ih=>
  intro p a d w h ha
  rw [paOf] at ha
  cases hk : kidAt p i with
  | none=>rw [hk] at ha; cases ha
  | some x=>
   rw [hk] at ha
   have ha' : paOf x l = some a:=ha
   cases h with
   | @scan t d h=>
    obtain ⟨h0,h1,_⟩:=kidAt_some hk
    simp only [Pl.ks,List.length_nil] at h1
    omega
   | @filter e q0 d w hq he=>
    obtain ⟨rfl,rfl⟩:=kidAt_1 hk
    obtain ⟨u,f,hd,hu,h1,h2⟩:=ih hq ha'
    refine ⟨u,f,by rw [List.length_cons]; omega,hu,fun q hq'=>?_,fun q w' hq'=>?_⟩
    ·rw [rep_cons]
     exact Wf.filter (h1 q hq') he
    ·rw [rep_cons] at hq'
     cases hq' with
     | filter hq2 _=>exact h2 q _ hq2
   | @project es q0 d u0 hq hl he=>
    obtain ⟨rfl,rfl⟩:=kidAt_1 hk
    obtain ⟨u,f,hd,hu,h1,h2⟩:=ih hq ha'
    refine ⟨u,f,by rw [List.length_cons]; omega,hu,fun q hq'=>?_,fun q w' hq'=>?_⟩
    ·rw [rep_cons]
     exact Wf.project (h1 q hq') hl he
    ·rw [rep_cons] at hq'
     cases hq' with
     | project hq2 _ _=>exact h2 q _ hq2
   | @join k e q0 r0 d a0 b0 hk4 hq hr hab he=>
    rcases kidAt_2 hk with ⟨rfl,rfl⟩ | ⟨rfl,rfl⟩
    ·obtain ⟨u,f,hd,hu,h1,h2⟩:=ih hq ha'
     refine ⟨u,f,by rw [List.length_cons]; omega,hu,fun q hq'=>?_,fun q w' hq'=>?_⟩
     ·rw [rep_cons]
      exact Wf.join hk4 (h1 q hq') hr hab he
     ·rw [rep_cons] at hq'
      cases hq' with
      | join _ hq2 _ _ _=>exact h2 q _ hq2
    ·obtain ⟨u,f,hd,hu,h1,h2⟩:=ih hr ha'
     refine ⟨u,f,by rw [List.length_cons]; omega,hu,fun q hq'=>?_,fun q w' hq'=>?_⟩
     ·rw [rep_cons]
      exact Wf.join hk4 hq (h1 q hq') hab he
     ·rw [rep_cons] at hq'
      cases hq' with
      | join _ _ hq2 _ _=>exact h2 q _ hq2
   | @union q0 r0 d w hq hr=>
    rcases kidAt_2 hk with ⟨rfl,rfl⟩ | ⟨rfl,rfl⟩
    ·obtain ⟨u,f,hd,hu,h1,h2⟩:=ih hq ha'
     refine ⟨u,f,by rw [List.length_cons]; omega,hu,fun q hq'=>?_,fun q w' hq'=>?_⟩
     ·rw [rep_cons]
      exact Wf.union (h1 q hq') hr
     ·rw [rep_cons] at hq'
      cases hq' with
      | union hq2 _=>exact h2 q _ hq2
    ·obtain ⟨u,f,hd,hu,h1,h2⟩:=ih hr ha'
     refine ⟨u,f,by rw [List.length_cons]; omega,hu,fun q hq'=>?_,fun q w' hq'=>?_⟩
     ·rw [rep_cons]
      exact Wf.union hq (h1 q hq')
     ·rw [rep_cons] at hq'
      cases hq' with
      | union _ hq2=>exact h2 q _ hq2
   | @distinct q0 d w hq=>
    obtain ⟨rfl,rfl⟩:=kidAt_1 hk
    obtain ⟨u,f,hd,hu,h1,h2⟩:=ih hq ha'
    refine ⟨u,f,by rw [List.length_cons]; omega,hu,fun q hq'=>?_,fun q w' hq'=>?_⟩
    ·rw [rep_cons]
     exact Wf.distinct (h1 q hq')
    ·rw [rep_cons] at hq'
     cases hq' with
     | distinct hq2=>exact h2 q _ hq2
   | @group cs q0 d w hq hc=>
    obtain ⟨rfl,rfl⟩:=kidAt_1 hk
    obtain ⟨u,f,hd,hu,h1,h2⟩:=ih hq ha'
    refine ⟨u,f,by rw [List.length_cons]; omega,hu,fun q hq'=>?_,fun q w' hq'=>?_⟩
    ·rw [rep_cons]
     exact Wf.group (h1 q hq') hc
    ·rw [rep_cons] at hq'
     cases hq' with
     | group hq2 _=>exact h2 q _ hq2
end Go.Proofs.YtgpdmgaemhelgaaGreat
