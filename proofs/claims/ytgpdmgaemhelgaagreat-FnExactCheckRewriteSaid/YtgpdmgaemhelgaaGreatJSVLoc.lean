/-
  RejectsNulls of the program for a valid expression. No condition.
-/
import Derived.Test.YtgpdmgaemhelgaaGreatKSDca
import Derived.Test.YtgpdmgaemhelgaaGreatKSDcf
import Derived.Test.YtgpdmgaemhelgaaGreatJSVWidF
import Derived.Test.YtgpdmgaemhelgaaGreatJSVFrzB
import Derived.Test.YtgpdmgaemhelgaaGreatJSDck
import Derived.Test.YtgpdmgaemhelgaaGreatJSVGo
import Derived.Test.YtgpdmgaemhelgaaGreatJSDch
import Derived.Test.YtgpdmgaemhelgaaGreatJSVClB
import Derived.Test.YtgpdmgaemhelgaaGreatJSVColsC
set_option maxHeartbeats 4000000
set_option maxRecDepth 100000
set_option linter.unusedVariables false
namespace Go.Proofs.YtgpdmgaemhelgaaGreat
open Go.RowKit
theorem RejectsNulls_I {e : E} {m : Nat} (hw : 1 ≤ m ∧ m ≤ 6) (he : eOk e m 8) (ns : List Int) (hl : ns.length ≤ 1048576) : Does Tryz.prog 169 [] [eD e,I m,intsD ns] (Bo (intBit .and .i64 (oc e (stL ns m)) 2 == 0)) []:=by
 have h2:=implValidExpr_ok e m
 rw [decide_eq_true ⟨by omega,he⟩] at h2
 have hsl:=stL_len ns m
 obtain ⟨_,_,hB⟩:=oc_ok (stL_ok ns m) (by kernel_rfl) (by kernel_rfl) e 8 (by rw [hsl]; exact he)
 generalize oc e (stL ns m) = n at hB
 have hz:=fil_zero I (I 0) (stL ns m)
 have hren:=fil_ren I (I 0) (fun _=>rfl) rfl (stL ns m)
 refine Bg c_Z36 mixed (go1 trivial ?_)
 refine Uc trivial (h2) (go1 trivial ?_)
 refine dw_for (c:=2) (l:=fun i=>[(2,intsD ns),(3,.ref 1000000 0),(7,.own 1000001 1 m),(16,I m),(17,I i),(1000000,.obj [I e.k,I e.c,Bo e.v.b,I e.v.n,.sl 5 (e.ks.map eD)]),(1000001,.row 1 (fil I (I 0) (stL ns m) i))]) m (fun _=>True) 0 trivial (Wk.list [2000003,2000014] rfl rfl ?_) (fun i hi _=>?_) (Nat.zero_le _)
 ·repeat' (first|(conv in hold _=>simp (disch:=omega) only [go_sem,hren])|exact trivial|exact Sub.refl _|omega)
  rw [hz,hsl]
  exact ⟨rfl,rfl⟩
 ·have hfl:=fil_len I (I 0) (stL ns m) (show i ≤ (stL ns m).length by omega)
  rw [hsl] at hfl
  by_cases hil : i < m
  ·have hget:=stL_get ns hil
   have hst:=fil_set I (I 0) hget
   have hgi : (fil I (I 0) (stL ns m) i)[i]? = some (I 0):=fil_get I (I 0) (by omega)
   have hct:=contains_ok ns hl i
   have hg7 : ((fil I (I 0) (stL ns m) i).set i (I 7))[i]? = some (I 7):=by rw [List.getElem?_set_self (by omega)]
   by_cases hm : (i : Int) ∈ ns
   ·rw [decide_eq_true hm] at hct
    rw [show stN ns i = 4 from if_pos hm] at hst
    refine go1 (cj2 @hfl @hgi) ?_
    refine Uc (cj3 @hfl @hgi @hg7) (hct) (go1 (cj3 @hfl @hgi @hg7) ?_)
    refine ⟨hil,trivial,Wk.list [1000000,1000001] rfl rfl ?_⟩
    repeat' (first|(conv in hold _=>simp (disch:=omega) only [go_sem,List.set_set,hst,hren])|exact trivial|exact Sub.refl _|omega)
   ·rw [decide_eq_false hm] at hct
    rw [show stN ns i = 7 from if_neg hm] at hst
    refine go1 (cj2 @hfl @hgi) ?_
    refine Uc (cj3 @hfl @hgi @hg7) (hct) (go1 (cj3 @hfl @hgi @hg7) ?_)
    refine ⟨hil,trivial,Wk.list [1000000,1000001] rfl rfl ?_⟩
    repeat' (first|(conv in hold _=>simp (disch:=omega) only [go_sem,hst,hren])|exact trivial|exact Sub.refl _|omega)
  ·obtain rfl : i = m:=by omega
   have hend:=fil_end I (I 0) (stL ns i)
   rw [hsl] at hend
   have e2 : ((stL ns i).map I).take i = (stL ns i).map I:=List.take_of_length_le (by rw [List.length_map]; omega)
   refine go1C @hend ?_
   refine s_pre (pre_frz (t:=31) (g:=1000001) (by decide) (by decide) rfl ?_) ?_
   rotate_left
   refine go1 (cj3 @hend @e2 @hsl) ?_
   ·exact Uc trivial (hB) (go0 trivial)
   ·exact ints_pur _
end Go.Proofs.YtgpdmgaemhelgaaGreat
set_option maxHeartbeats 4000000
set_option maxRecDepth 100000
set_option linter.unusedVariables false
set_option linter.unusedSimpArgs false
namespace Go.Proofs.YtgpdmgaemhelgaaGreat
open Go.RowKit
def rootD (a b : Nat) (x : Pl) : D:=.agg [I x.k,I x.t,.own a 5 x.es.length,.own b 1 x.cs.length,.sl 5 (x.ks.map pD)]
def esR (x : Pl) : D:=.row 5 (x.es.map eD)
def csR (x : Pl) : D:=.row 1 (x.cs.map I)
attribute [go_sem] rootD esR csR
abbrev OPlan (bs : List Nat) (ws : List Int) (p j u : Nat) (d : Int) (x : Pl) (q j' u' : Nat) : Prop:=
 Does Tryz.prog 153 [gnD ws j u,rdD bs p,wrD ws] [.ref 1000000 0,I d] (rootD 1000003 1000004 x) [gnD ws j' u',rdD bs q,wrD ws,esR x,csR x]
variable {bs : List Nat} {ws : List Int} {p j u d : Nat} {x : Pl} {t k6 c n : Int} {q j1 u1 : Nat}
end Go.Proofs.YtgpdmgaemhelgaaGreat
set_option maxHeartbeats 4000000
set_option maxRecDepth 100000
set_option linter.unusedVariables false
set_option linter.unusedSimpArgs false
namespace Go.Proofs.YtgpdmgaemhelgaaGreat
open Go.RowKit
theorem zero_1 {n : Int} (h : n ≠ 0) : ¬ zeroIn [n]:=by
 rintro ⟨j,hj⟩
 cases j with
 | zero=>exact h (by simpa using hj)
 | succ j=>simp at hj
theorem wd_1 {ws : List Int} {k : Int} {es : List E} {cs : List Int} {p : Pl} {d : Nat} (hk : k ≠ 1) (hf : fields (.mk k 0 es cs [p])) : wdV ws (.mk k 0 es cs [p]) (d + 1) = resV (.mk k 0 es cs [p]) [wdV ws p d]:=by
 rw [wd_eq,if_pos hf,if_neg (show ¬ (Pl.mk k 0 es cs [p]).k = 1 from hk),if_neg (Nat.succ_ne_zero d)]
 rfl
theorem wd_1t {ws : List Int} {k : Int} {es : List E} {cs : List Int} {p : Pl} {d : Nat} (hk : k ≠ 1) (hf : fieldsI (.mk k 0 es cs [p])) (h0 : wdV ws p d ≠ 0) (hv : fitsV (.mk k 0 es cs [p]) [wdV ws p d]) : wdV ws (.mk k 0 es cs [p]) (d + 1) = fromV (.mk k 0 es cs [p]) [wdV ws p d]:=by
 rw [wd_1 hk hf.1,resV_t (zero_1 h0) hf hv]
theorem wd_1z {ws : List Int} {k : Int} {es : List E} {cs : List Int} {p : Pl} {d : Nat} (hk : k ≠ 1) (h0 : wdV ws p d = 0) : wdV ws (.mk k 0 es cs [p]) (d + 1) = 0:=
 Classical.byContradiction fun h=>(wd_fit h (show ¬ (Pl.mk k 0 es cs [p]).k = 1 from hk)).2.2 p (List.mem_cons_self ..) (by simpa using h0)
theorem fits_v {p : Pl} {ns : List Int} (h6 : ¬ p.k = 6) (h8 : ¬ p.k = 8) (h : ∀ (j : Nat) (e : E),p.es[j]? = some e → (1 ≤ ns.sum ∧ ns.sum ≤ 6) ∧ eOk e ns.sum 8) : fitsV p ns:=by
 unfold fitsV
 rw [if_neg h6,if_neg h8]
 exact h
def fiP (e : E) (p : Pl) : Pl:=.mk 2 0 [e] [] [p]
theorem fi_wd {ws : List Int} {p : Pl} {d : Nat} {e : E} (hr : 0 ≤ wdV ws p d ∧ wdV ws p d ≤ 6) (he : 1 ≤ wdV ws p d → eOk e (wdV ws p d) 8) : wdV ws (fiP e p) (d + 1) = wdV ws p d:=by
 by_cases h0 : wdV ws p d = 0
 ·rw [h0]; exact wd_1z (by decide) h0
 ·have hf : fieldsI (fiP e p):=by
   refine ⟨?_,fun h=>absurd (show (2 : Int) = 3 from h) (by decide)⟩
   simp [fields,fiP,Pl.k,Pl.ks,Pl.es,Pl.cs,Pl.t]
  refine (wd_1t (by decide) hf h0 ?_).trans rfl
  refine fits_v (fun h=>absurd (show (2 : Int) = 6 from h) (by decide)) (fun h=>absurd (show (2 : Int) = 8 from h) (by decide)) (fun j x hj=>?_)
  have hsum : [wdV ws p d].sum = wdV ws p d:=by simp
  rw [hsum]
  have hx : x = e:=by
   cases j with
   | zero=>exact (by simpa [Pl.es] using hj.symm)
   | succ j=>simp [Pl.es] at hj
  rw [hx]
  exact ⟨by omega,he (by omega)⟩
def prP (es : List E) (p : Pl) : Pl:=.mk 3 0 es [] [p]
theorem pr_wd {ws : List Int} {p : Pl} {d : Nat} {es : List E} (hr : 0 ≤ wdV ws p d ∧ wdV ws p d ≤ 6) (hl : 1 ≤ es.length ∧ es.length ≤ 6) (he : 1 ≤ wdV ws p d → ∀ e,e ∈ es → eOk e (wdV ws p d) 8) : wdV ws (prP es p) (d + 1) = if wdV ws p d = 0 then 0 else (es.length : Int):=by
 by_cases h0 : wdV ws p d = 0
 ·rw [if_pos h0]; exact wd_1z (by decide) h0
 ·rw [if_neg h0]
  have hf : fieldsI (prP es p):=by
   refine ⟨?_,fun _=>hl⟩
   simp [fields,prP,Pl.k,Pl.ks,Pl.es,Pl.cs,Pl.t]
  refine (wd_1t (by decide) hf h0 ?_).trans rfl
  refine fits_v (fun h=>absurd (show (3 : Int) = 6 from h) (by decide)) (fun h=>absurd (show (3 : Int) = 8 from h) (by decide)) (fun j x hj=>?_)
  have hsum : [wdV ws p d].sum = wdV ws p d:=by simp
  rw [hsum]
  exact ⟨by omega,he (by omega) x (List.mem_of_getElem? hj)⟩
/-! Plans over two kids. -/
theorem zero_2 {a b : Int} (ha : a ≠ 0) (hb : b ≠ 0) : ¬ zeroIn [a,b]:=by
 rintro ⟨j,hj⟩
 cases j with
 | zero=>exact ha (by simpa using hj)
 | succ j=>
  cases j with
  | zero=>exact hb (by simpa using hj)
  | succ j=>simp at hj
theorem wd_2 {ws : List Int} {k : Int} {es : List E} {cs : List Int} {p q : Pl} {d : Nat} (hk : k ≠ 1) (hf : fields (.mk k 0 es cs [p,q])) : wdV ws (.mk k 0 es cs [p,q]) (d + 1) = resV (.mk k 0 es cs [p,q]) [wdV ws p d,wdV ws q d]:=by
 rw [wd_eq,if_pos hf,if_neg (show ¬ (Pl.mk k 0 es cs [p,q]).k = 1 from hk),if_neg (Nat.succ_ne_zero d)]
 rfl
theorem wd_2t {ws : List Int} {k : Int} {es : List E} {cs : List Int} {p q : Pl} {d : Nat} (hk : k ≠ 1) (hf : fieldsI (.mk k 0 es cs [p,q])) (h0 : wdV ws p d ≠ 0) (h1 : wdV ws q d ≠ 0) (hv : fitsV (.mk k 0 es cs [p,q]) [wdV ws p d,wdV ws q d]) :
  wdV ws (.mk k 0 es cs [p,q]) (d + 1) = fromV (.mk k 0 es cs [p,q]) [wdV ws p d,wdV ws q d]:=by
 rw [wd_2 hk hf.1,resV_t (zero_2 h0 h1) hf hv]
theorem wd_2z {ws : List Int} {k : Int} {es : List E} {cs : List Int} {p q : Pl} {d : Nat} (hk : k ≠ 1) (h0 : wdV ws p d = 0 ∨ wdV ws q d = 0) : wdV ws (.mk k 0 es cs [p,q]) (d + 1) = 0:=by
 refine Classical.byContradiction fun h=>?_
 have hx:=(wd_fit h (show ¬ (Pl.mk k 0 es cs [p,q]).k = 1 from hk)).2.2
 rcases h0 with h0 | h0
 ·exact hx p (List.mem_cons_self ..) (by simpa using h0)
 ·exact hx q (List.mem_cons_of_mem _ (List.mem_cons_self ..)) (by simpa using h0)
def unP (p q : Pl) : Pl:=.mk 6 0 [] [] [p,q]
theorem un_fields (p q : Pl) : fieldsI (unP p q):=by
 refine ⟨?_,fun h=>absurd (show (6 : Int) = 3 from h) (by decide)⟩
 simp [fields,unP,Pl.k,Pl.ks,Pl.es,Pl.cs,Pl.t]
theorem un_wd {ws : List Int} {p q : Pl} {d : Nat} : wdV ws (unP p q) (d + 1) = if wdV ws p d = 0 ∨ wdV ws q d = 0 ∨ wdV ws p d ≠ wdV ws q d then 0 else wdV ws p d:=by
 by_cases h0 : wdV ws p d = 0 ∨ wdV ws q d = 0
 ·rw [if_pos (h0.elim Or.inl (fun h=>Or.inr (Or.inl h)))]
  exact wd_2z (by decide) h0
 ·by_cases he : wdV ws p d = wdV ws q d
  ·rw [if_neg (fun h=>h.elim (fun h=>h0 (Or.inl h)) (fun h=>h.elim (fun h=>h0 (Or.inr h)) (fun h=>h he)))]
   refine (wd_2t (by decide) (un_fields p q) (fun h=>h0 (Or.inl h)) (fun h=>h0 (Or.inr h)) ?_).trans rfl
   unfold fitsV
   rw [if_pos (show (Pl.mk 6 0 [] [] [p,q]).k = 6 from rfl)]
   exact he
  ·rw [if_pos (Or.inr (Or.inr he))]
   refine (wd_2 (by decide) (un_fields p q).1).trans (resV_f fun h=>he ?_)
   have hv:=h.2
   unfold fitsV at hv
   rw [if_pos (show (Pl.mk 6 0 [] [] [p,q]).k = 6 from rfl)] at hv
   exact hv
def diP (p : Pl) : Pl:=.mk 7 0 [] [] [p]
theorem di_wd {ws : List Int} {p : Pl} {d : Nat} (hr : 0 ≤ wdV ws p d ∧ wdV ws p d ≤ 6) : wdV ws (diP p) (d + 1) = wdV ws p d:=by
 by_cases h0 : wdV ws p d = 0
 ·rw [h0]; exact wd_1z (by decide) h0
 ·have hf : fieldsI (diP p):=by
   refine ⟨?_,fun h=>absurd (show (7 : Int) = 3 from h) (by decide)⟩
   simp [fields,diP,Pl.k,Pl.ks,Pl.es,Pl.cs,Pl.t]
  refine (wd_1t (by decide) hf h0 (fits_v (fun h=>absurd (show (7 : Int) = 6 from h) (by decide)) (fun h=>absurd (show (7 : Int) = 8 from h) (by decide)) (fun j x hj=>?_))).trans rfl
  simp [Pl.es] at hj
def grP (cs : List Int) (p : Pl) : Pl:=.mk 8 0 [] cs [p]
theorem gr_wd {ws : List Int} {p : Pl} {d : Nat} {cs : List Int} (hc : cs.length < 6 ∧ (wdV ws p d ≠ 0 → colsOk cs (wdV ws p d))) : wdV ws (grP cs p) (d + 1) = if wdV ws p d = 0 then 0 else (cs.length : Int) + 1:=by
 by_cases h0 : wdV ws p d = 0
 ·rw [if_pos h0]; exact wd_1z (by decide) h0
 ·rw [if_neg h0]
  have hf : fieldsI (grP cs p):=by
   refine ⟨?_,fun h=>absurd (show (8 : Int) = 3 from h) (by decide)⟩
   simp [fields,grP,Pl.k,Pl.ks,Pl.es,Pl.cs,Pl.t]
  refine (wd_1t (by decide) hf h0 ?_).trans rfl
  unfold fitsV
  rw [if_neg (show ¬ (Pl.mk 8 0 [] cs [p]).k = 6 from fun h=>absurd (show (8 : Int) = 6 from h) (by decide)),if_pos (show (Pl.mk 8 0 [] cs [p]).k = 8 from rfl)]
  exact ⟨hc.1,hc.2 h0⟩
end Go.Proofs.YtgpdmgaemhelgaaGreat
set_option maxHeartbeats 4000000
set_option maxRecDepth 100000
set_option linter.unusedVariables false
set_option linter.unusedSimpArgs false
namespace Go.Proofs.YtgpdmgaemhelgaaGreat
open Go.RowKit
inductive Loc : Pl → Prop
 | mk {p : Pl} (h1 : p.es.length ≤ 1048576) (h2 : p.cs.length ≤ 1048576) (h3 : p.ks.length ≤ 900000) (h4 : ∀ e,e ∈ p.es → esz e ≤ 800000) (h5 : ∀ x,x ∈ p.ks → Loc x) : Loc p
theorem Loc.own {p : Pl} (h : Loc p) : p.es.length ≤ 1048576 ∧ p.cs.length ≤ 1048576 ∧ p.ks.length ≤ 900000 ∧ (∀ e,e ∈ p.es → esz e ≤ 800000) ∧ ∀ x,x ∈ p.ks → Loc x:=by cases h with | mk h1 h2 h3 h4 h5=>exact ⟨h1,h2,h3,h4,h5⟩
theorem loc_of : ∀ p : Pl,psz p ≤ 800000 → Loc p:=by
 refine Pl.indA (fun p ih h=>?_)
 rw [psz_eq] at h
 have h1:=eszL_len p.es
 have h2:=pszL_len p.ks
 exact .mk (by omega) (by omega) (by omega) (fun e he=>by have:=eszL_mem he; omega) (fun x hx=>ih x hx (by have:=pszL_mem hx; omega))
theorem width_loc {ws : List Int} (hw : wsOk ws) : ∀ (p : Pl),Loc p → ∀ d : Nat,d < 1000 → (0 ≤ wdV ws p d ∧ wdV ws p d ≤ 6) ∧ Does Tryz.prog 95 [] [pD p,intsD ws,I d] (I (wdV ws p d)) [] ∧ Does Tryz.prog 56 [] [pD p,intsD ws,I d] (I (wdV ws p d)) []:=by
 refine Pl.indA (fun p ih hs d hd=>?_)
 obtain ⟨l1,l2,l3,l4,l5⟩:=hs.own
 rw [wd_eq]
 by_cases hf : fields p
 ·rw [if_pos hf]
  by_cases hk : p.k = 1
  ·rw [if_pos hk]
   exact ⟨scan_range hw p.t,planWidth_scan p ws hw d hf hk,widthWithin_scan p ws hw d hf hk⟩
  ·rw [if_neg hk]
   have hks : 1 ≤ p.ks.length:=by unfold fields at hf; omega
   by_cases hd0 : d = 0
   ·subst hd0
    rw [if_pos rfl]
    refine ⟨by decide,planWidth_0 p ws hf (by omega),?_⟩
    by_cases hfi : fieldsI p
    ·have h:=widthWithin_main p ws 0 (by decide) hfi hk (by omega) (by omega) (List.replicate p.ks.length 0) (by rw [List.length_replicate]) (fun j x hj=>by have:=List.eq_of_mem_replicate (List.mem_of_getElem? hj); omega) (fun i x n hx hn=>by
      obtain rfl : n = 0:=List.eq_of_mem_replicate (List.mem_of_getElem? hn)
      exact widthWithin_neg x ws)
     rw [resV_z ⟨0,by rw [List.getElem?_replicate,if_pos (by omega)]⟩] at h
     exact h
    ·exact widthWithin_no p ws 0 hfi
   ·rw [if_neg hd0]
    have hc1 : ((d - 1 : Nat) : Int) = (d : Int) - 1:=by omega
    have hp : ∀ (x : Pl),x ∈ p.ks → (0 ≤ wdV ws x (d - 1) ∧ wdV ws x (d - 1) ≤ 6) ∧ Does Tryz.prog 95 [] [pD x,intsD ws,I ((d : Int) - 1)] (I (wdV ws x (d - 1))) [] ∧ Does Tryz.prog 56 [] [pD x,intsD ws,I ((d : Int) - 1)] (I (wdV ws x (d - 1))) []:=fun x hx=>by
     have:=ih x hx (l5 x hx) (d - 1) (by omega)
     rw [hc1] at this
     exact this
    have hl : (p.ks.map (fun x=>wdV ws x (d - 1))).length = p.ks.length:=List.length_map ..
    have hn : ∀ (j : Nat) (x : Int),(p.ks.map (fun x=>wdV ws x (d - 1)))[j]? = some x → 0 ≤ x ∧ x ≤ 6:=fun j x hj=>by
     obtain ⟨y,hy,rfl⟩:=List.mem_map.1 (List.mem_of_getElem? hj)
     exact (hp y hy).1
    refine ⟨resV_range p _ hn,planWidth_main p ws d hd (by omega) hf hk (by omega) (by omega) _ hl hn (fun i x n hx hn=>?_),?_⟩
    ·obtain rfl:=wd_at hx hn
     exact (hp x (List.mem_of_getElem? hx)).2.1
    ·by_cases hfi : fieldsI p
     ·exact widthWithin_main p ws d hd hfi hk (by omega) (by omega) _ hl hn (fun i x n hx hn=>by
       obtain rfl:=wd_at hx hn
       exact (hp x (List.mem_of_getElem? hx)).2.2)
     ·rw [resV_f (fun h=>hfi h.1)]
      exact widthWithin_no p ws d hfi
 ·rw [if_neg hf]
  exact ⟨by decide,planWidth_no p ws d hf,widthWithin_no p ws d (fun h=>hf h.1)⟩
theorem copyPlan_loc : ∀ p : Pl,Loc p → Does Tryz.prog 64 [] [pD p] (pD p) []:=by
 refine Pl.indA (fun p ih h=>?_)
 obtain ⟨l1,l2,l3,l4,l5⟩:=h.own
 have hc:=take_all I p.cs
 refine Bg c_Z111 mixed (go1 trivial ?_)
 refine dw_for (c:=5) (l:=fun i=>[(1,.ref 1000000 0),(2,.ref 1000001 0),(3,.ref 1000002 0),(4,I i),(1000000,.obj [I p.k,I p.t,.sl 5 (p.es.map eD),.sl 1 (p.cs.map I),.sl 5 (p.ks.map pD)]),(1000001,.obj [I 0,I 0,.nul,.nul,.nul]),(1000002,.obj [I p.k,I p.t,.own 1000004 5 i,.own 1000003 1 p.cs.length,.nul]),(1000003,.row 1 (p.cs.map I)),(1000004,.row 5 ((p.es.take i).map eD))]) p.es.length (fun _=>True) 0 trivial ((wk_rowO 2000003 2000099 5 2 (by decide) (by decide) (by decide) rfl rfl rfl).trans (Wk.list [2000001,2000002,2000003,2000013,2000099] rfl rfl ?_)) (fun i hi _=>?_) (Nat.zero_le _)
 ·repeat' (first|(conv in hold _=>simp (disch:=omega) only [go_sem,hc])|exact trivial|exact Sub.refl _|omega)
  exact rfl
 ·have hlt:=take_len (vs:=p.es) (i:=i) (by omega)
  have hmt:=take_map eD (vs:=p.es) (i:=i) (by omega)
  rcases at_or_end hi with ⟨x,hx,hlt1⟩ | rfl
  ·have hix:=copyExpr_ok x (by have:=l4 x (List.mem_of_getElem? hx); omega)
   have hnx:=take_next hx
   refine go1 (cj2 @hx @hc) ?_
   refine Uc @hc (hix) (go1 @hc ?_)
   refine ⟨hlt1,trivial,Wk.list [1000000,1000001,1000002,1000003,2000031] rfl rfl ?_⟩
   repeat' (first|(conv in hold _=>simp (disch:=omega) only [go_sem,hc])|exact trivial|exact Sub.refl _|omega)
   rw [hmt,hnx,List.map_append,List.map_cons,List.map_nil,eD_eq x]
  ·have e1 : p.es.take p.es.length = p.es:=List.take_length
   have e2 : (p.es.map eD).take p.es.length = p.es.map eD:=take_all eD p.es
   refine go1 (cj2 @e1 @hc) ?_
   refine dw_for (c:=6) (l:=fun i=>[(1,.ref 1000000 0),(2,.ref 1000001 0),(3,.ref 1000002 0),(5,I i),(1000000,.obj [I p.k,I p.t,.sl 5 (p.es.map eD),.sl 1 (p.cs.map I),.sl 5 (p.ks.map pD)]),(1000001,.obj [I 0,I 0,.nul,.nul,.nul]),(1000002,.obj [I p.k,I p.t,.own 1000004 5 p.es.length,.own 1000003 1 p.cs.length,.own 1000005 5 i]),(1000003,.row 1 (p.cs.map I)),(1000004,.row 5 (p.es.map eD)),(1000005,.row 5 ((p.ks.take i).map pD))]) p.ks.length (fun _=>True) 0 trivial ((wk_rowO 1000002 2000099 5 4 (by decide) (by decide) (by decide) rfl rfl rfl).trans (Wk.list [1000000,1000001,1000002,1000003,1000004,2000099] rfl rfl ?_)) (fun i hi _=>?_) (Nat.zero_le _)
   ·repeat' (first|(conv in hold _=>simp (disch:=omega) only [go_sem,hc,e1,e2])|exact trivial|exact Sub.refl _|omega)
    exact rfl
   ·have hlt:=take_len (vs:=p.ks) (i:=i) (by omega)
    have hmt:=take_map pD (vs:=p.ks) (i:=i) (by omega)
    rcases at_or_end hi with ⟨x,hx,hlt1⟩ | rfl
    ·have hix:=ih x (List.mem_of_getElem? hx) (l5 x (List.mem_of_getElem? hx))
     have hnx:=take_next hx
     refine go1 (cj3 @hx @hc @e2) ?_
     refine Uc (cj2 @hc @e2) (hix) (go1 (cj2 @hc @e2) ?_)
     refine ⟨hlt1,trivial,Wk.list [1000000,1000001,1000002,1000003,1000004,2000049] rfl rfl ?_⟩
     repeat' (first|(conv in hold _=>simp (disch:=omega) only [go_sem,hc,e2])|exact trivial|exact Sub.refl _|omega)
     rw [hmt,hnx,List.map_append,List.map_cons,List.map_nil,pD_eq x]
     rfl
    ·have e3 : p.ks.take p.ks.length = p.ks:=List.take_length
     have e4 : (p.ks.map pD).take p.ks.length = p.ks.map pD:=take_all pD p.ks
     refine go1F (cj3 @e3 @hc @e2) ?_
     refine fin_wk (wk_frzO 1000001 1000003 (by decide) (by decide) rfl (by decide) rfl ?_) ?_
     rotate_left
     (conv in hold _=>simp (disch:=omega) only [go_sem,e2,hc,e4])
     refine fin_wk (wk_frzO 1000001 1000004 (by decide) (by decide) rfl (by decide) rfl ?_) ?_
     rotate_left
     (conv in hold _=>simp (disch:=omega) only [go_sem,e2,hc,e4])
     refine fin_wk (wk_frzO 1000001 1000005 (by decide) (by decide) rfl (by decide) rfl ?_) ?_
     rotate_left
     (conv in hold _=>simp (disch:=omega) only [go_sem,e2,hc,e4])
     all_goals first
      | exact ints_pur _
      | exact exprs_pur _
      | exact plans_pur _
      | skip
     refine fin_L [] ?_ ?_ rfl ?_
     all_goals exact Ag trivial
theorem copyPlan_kids (p : Pl) (h : Loc p) (h0 : 0 < p.ks.length) : Does Tryz.prog 64 [] [pD p] (.agg [I p.k,I p.t,.sl 5 (p.es.map eD),intsD p.cs,.own 1000000 5 p.ks.length]) [.row 5 (p.ks.map pD)]:=by
 obtain ⟨l1,l2,l3,l4,l5⟩:=h.own
 have hc:=take_all I p.cs
 refine Bk c_Z111 mixed 0 (go1 trivial ?_)
 refine dw_for (c:=5) (l:=fun i=>[(1,.ref 1000000 0),(2,.ref 1000001 0),(3,.ref 1000002 0),(4,I i),(1000000,.obj [I p.k,I p.t,.sl 5 (p.es.map eD),.sl 1 (p.cs.map I),.sl 5 (p.ks.map pD)]),(1000001,.obj [I 0,I 0,.nul,.nul,.nul]),(1000002,.obj [I p.k,I p.t,.own 1000004 5 i,.own 1000003 1 p.cs.length,.nul]),(1000003,.row 1 (p.cs.map I)),(1000004,.row 5 ((p.es.take i).map eD))]) p.es.length (fun _=>True) 0 trivial ((wk_rowO 2000003 2000099 5 2 (by decide) (by decide) (by decide) rfl rfl rfl).trans (Wk.list [2000001,2000002,2000003,2000013,2000099] rfl rfl ?_)) (fun i hi _=>?_) (Nat.zero_le _)
 ·repeat' (first|(conv in hold _=>simp (disch:=omega) only [go_sem,hc])|exact trivial|exact Sub.refl _|omega)
  exact rfl
 ·have hlt:=take_len (vs:=p.es) (i:=i) (by omega)
  have hmt:=take_map eD (vs:=p.es) (i:=i) (by omega)
  rcases at_or_end hi with ⟨x,hx,hlt1⟩ | rfl
  ·have hix:=copyExpr_ok x (by have:=l4 x (List.mem_of_getElem? hx); omega)
   have hnx:=take_next hx
   refine go1 (cj2 @hx @hc) ?_
   refine Uc @hc (hix) (go1 @hc ?_)
   refine ⟨hlt1,trivial,Wk.list [1000000,1000001,1000002,1000003,2000031] rfl rfl ?_⟩
   repeat' (first|(conv in hold _=>simp (disch:=omega) only [go_sem,hc])|exact trivial|exact Sub.refl _|omega)
   rw [hmt,hnx,List.map_append,List.map_cons,List.map_nil,eD_eq x]
  ·have e1 : p.es.take p.es.length = p.es:=List.take_length
   have e2 : (p.es.map eD).take p.es.length = p.es.map eD:=take_all eD p.es
   refine go1 (cj2 @e1 @hc) ?_
   refine dw_for (c:=6) (l:=fun i=>[(1,.ref 1000000 0),(2,.ref 1000001 0),(3,.ref 1000002 0),(5,I i),(1000000,.obj [I p.k,I p.t,.sl 5 (p.es.map eD),.sl 1 (p.cs.map I),.sl 5 (p.ks.map pD)]),(1000001,.obj [I 0,I 0,.nul,.nul,.nul]),(1000002,.obj [I p.k,I p.t,.own 1000004 5 p.es.length,.own 1000003 1 p.cs.length,.own 1000005 5 i]),(1000003,.row 1 (p.cs.map I)),(1000004,.row 5 (p.es.map eD)),(1000005,.row 5 ((p.ks.take i).map pD))]) p.ks.length (fun _=>True) 0 trivial ((wk_rowO 1000002 2000099 5 4 (by decide) (by decide) (by decide) rfl rfl rfl).trans (Wk.list [1000000,1000001,1000002,1000003,1000004,2000099] rfl rfl ?_)) (fun i hi _=>?_) (Nat.zero_le _)
   ·repeat' (first|(conv in hold _=>simp (disch:=omega) only [go_sem,hc,e1,e2])|exact trivial|exact Sub.refl _|omega)
    exact rfl
   ·have hlt:=take_len (vs:=p.ks) (i:=i) (by omega)
    have hmt:=take_map pD (vs:=p.ks) (i:=i) (by omega)
    rcases at_or_end hi with ⟨x,hx,hlt1⟩ | rfl
    ·have hix:=copyPlan_loc x (l5 x (List.mem_of_getElem? hx))
     have hnx:=take_next hx
     refine go1 (cj3 @hx @hc @e2) ?_
     refine Uc (cj2 @hc @e2) (hix) (go1 (cj2 @hc @e2) ?_)
     refine ⟨hlt1,trivial,Wk.list [1000000,1000001,1000002,1000003,1000004,2000049] rfl rfl ?_⟩
     repeat' (first|(conv in hold _=>simp (disch:=omega) only [go_sem,hc,e2])|exact trivial|exact Sub.refl _|omega)
     rw [hmt,hnx,List.map_append,List.map_cons,List.map_nil,pD_eq x]
     rfl
    ·have e3 : p.ks.take p.ks.length = p.ks:=List.take_length
     have e4 : (p.ks.map pD).take p.ks.length = p.ks.map pD:=take_all pD p.ks
     refine go1F (cj3 @e3 @hc @e2) ?_
     refine fin_wk (wk_frzO 1000001 1000003 (by decide) (by decide) rfl (by decide) rfl ?_) ?_
     rotate_left
     (conv in hold _=>simp (disch:=omega) only [go_sem,e2,hc,e4])
     refine fin_wk (wk_frzO 1000001 1000004 (by decide) (by decide) rfl (by decide) rfl ?_) ?_
     rotate_left
     (conv in hold _=>simp (disch:=omega) only [go_sem,e2,hc,e4])
     all_goals first
      | exact ints_pur _
      | exact exprs_pur _
      | exact plans_pur _
      | skip
     refine fin_L [1000005] ?_ ?_ rfl ?_
     all_goals exact Ag trivial
end Go.Proofs.YtgpdmgaemhelgaaGreat
