/-
  Drawn plans: one step of the planner. No condition.
-/
import Derived.Test.YtgpdmgaemhelgaaGreatKSDca
import Derived.Test.YtgpdmgaemhelgaaGreatJSDco
import Derived.Test.YtgpdmgaemhelgaaGreatJSVCond
import Derived.Test.YtgpdmgaemhelgaaGreatJSVOutD
import Derived.Test.YtgpdmgaemhelgaaGreatJSVBox
import Derived.Test.YtgpdmgaemhelgaaGreatJSVYld
import Derived.Test.YtgpdmgaemhelgaaGreatJSDcVWid
import Derived.Test.YtgpdmgaemhelgaaGreatKSDcb
import Derived.Test.YtgpdmgaemhelgaaGreatJSVCpE
import Derived.Test.YtgpdmgaemhelgaaGreatJSVClA
import Derived.Test.YtgpdmgaemhelgaaGreatJSVEsz
set_option maxHeartbeats 4000000
set_option maxRecDepth 100000
set_option linter.unusedVariables false
set_option linter.unusedSimpArgs false
namespace Go.Proofs.YtgpdmgaemhelgaaGreat
open Go.RowKit
def gnD (ws : List Int) (j u : Nat) : D:=.obj [.ref 1000001 0,.own 1000002 1 ws.length,I j,I u]
def wrD (ws : List Int) : D:=.row 1 (ws.map I)
attribute [go_sem] gnD wrD
abbrev DPlan (bs : List Nat) (ws : List Int) (p j u : Nat) (d : Int) (x : Pl) (q j' u' : Nat) : Prop:=
 Does Tryz.prog 153 [gnD ws j u,rdD bs p,wrD ws] [.ref 1000000 0,I d] (pD x) [gnD ws j' u',rdD bs q,wrD ws]
abbrev DPick (bs : List Nat) (p : Nat) (n v : Int) : Prop:=Does Tryz.prog 65 [rdD bs p] [.ref 1000000 0,I n] (I v) [rdD bs (p + 1)]
abbrev DCond (bs : List Nat) (p : Nat) (n : Int) (e : E) (q : Nat) : Prop:=Does Tryz.prog 155 [rdD bs p] [.ref 1000000 0,I n] (eD e) [rdD bs q]
abbrev DWid (ws : List Int) (x : Pl) (n : Int) : Prop:=Does Tryz.prog 95 [wrD ws] [pD x,.own 1000000 1 ws.length,I 8] (I n) [wrD ws]
theorem plan_zero {bs : List Nat} {ws : List Int} {p j u : Nat} (hl : ws.length ≤ 10) {t : Int} (h1 : DPick bs p ws.length t) : DPlan bs ws p j u 0 (.mk 1 t [] [] []) (p + 1) j u:=by
 refine Bk c_Z34 mixed 3 (go1 trivial ?_)
 refine UcR [1000001] trivial (h1) (go1 trivial ?_)
 refine fin_L [1000000,1000001,1000002] ?_ ?_ rfl ?_
 repeat' (first|(conv in hold _=>simp (disch:=omega) only [go_sem])|exact trivial|exact Sub.refl _|omega)
 exact Sub.agg ⟨Sub.refl _,Sub.refl _,Sub.nul 5,Sub.nul 1,Sub.nul 5,trivial⟩
theorem plan_scan {bs : List Nat} {ws : List Int} {p j u : Nat} (hl : ws.length ≤ 10) {t : Int} (d : Nat) (h1 : DPick bs p ws.length t) (h2 : DPick bs (p + 1) 6 0) : DPlan bs ws p j u ((d + 1 : Nat) : Int) (.mk 1 t [] [] []) (p + 2) j u:=by
 refine Bk c_Z34 mixed 3 (go1 trivial ?_)
 refine UcR [1000001] trivial (h1) (go1 trivial ?_)
 refine UcR [1000001] trivial (h2) (go1 trivial ?_)
 refine fin_L [1000000,1000001,1000002] ?_ ?_ rfl ?_
 repeat' (first|(conv in hold _=>simp (disch:=omega) only [go_sem])|exact trivial|exact Sub.refl _|omega)
 exact Sub.agg ⟨Sub.refl _,Sub.refl _,Sub.nul 5,Sub.nul 1,Sub.nul 5,trivial⟩
structure Pre (bs : List Nat) (ws : List Int) (p j u d : Nat) (x : Pl) (t k6 c n : Int) (q j1 u1 : Nat) : Prop where
 hl : ws.length ≤ 10
 hd : d ≤ 100
 h1 : DPick bs p ws.length t
 h2 : DPick bs (p + 1) 6 k6
 h6 : k6 ≠ 0
 hk : DPlan bs ws (p + 2) j u d x q j1 u1
 hw : DWid ws x n
 hn : 0 ≤ n ∧ n ≤ 6
 h3 : DPick bs q 10 c
 hj : j1 ≤ 1
 hu : u1 ≤ 1
variable {bs : List Nat} {ws : List Int} {p j u d : Nat} {x : Pl} {t k6 c n : Int} {q j1 u1 : Nat}
theorem plan_fil (h : Pre bs ws p j u d x t k6 c n q j1 u1) (hc : c = 0 ∨ c = 1 ∨ c = 2) {e : E} {q2 : Nat} (hce : DCond bs (q + 1) n e q2) : DPlan bs ws p j u ((d + 1 : Nat) : Int) (.mk 2 0 [e] [] [x]) q2 j1 u1:=by
 obtain ⟨hl,hd,h1,h2,h6,hk,hw,hn,h3,hj,hu⟩:=h
 have hf:=filterOf_ok e x
 rcases hc with rfl | rfl | rfl
 all_goals
  refine Bk c_Z34 mixed 3 (go1 trivial ?_)
  refine UcR [1000001] trivial (h1) (go1 trivial ?_)
  refine UcR [1000001] trivial (h2) (go1 trivial ?_)
  refine UcR [1000000,1000001,1000002] trivial (hk) (go1 trivial ?_)
  refine UcR [1000002] trivial (hw) (go1 trivial ?_)
  refine UcR [1000001] trivial (h3) (go1 trivial ?_)
  refine UcR [1000001] trivial (hce) (go1 trivial ?_)
  refine Uc trivial (hf) (go1 trivial ?_)
  refine fin_L [1000000,1000001,1000002] ?_ ?_ rfl ?_
  all_goals exact Ag trivial
theorem plan_def (h : Pre bs ws p j u d x t k6 c n q j1 u1) (hc : ((c = 5 ∨ c = 6) ∧ ¬ (0 < j1 ∧ n ≤ 4)) ∨ (c = 7 ∧ u1 = 0)) {e : E} {q2 : Nat} (hce : DCond bs (q + 1) n e q2) : DPlan bs ws p j u ((d + 1 : Nat) : Int) (.mk 2 0 [e] [] [x]) q2 j1 u1:=by
 obtain ⟨hl,hd,h1,h2,h6,hk,hw,hn,h3,hj,hu⟩:=h
 have hf:=filterOf_ok e x
 rcases hc with ⟨rfl | rfl,hc⟩ | ⟨rfl,hc⟩
 ·by_cases hj0 : 0 < j1
  ·have hn4 : ¬ n ≤ 4:=fun h=>hc ⟨hj0,h⟩
   refine Bk c_Z34 mixed 3 (go1 trivial ?_)
   refine UcR [1000001] trivial (h1) (go1 trivial ?_)
   refine UcR [1000001] trivial (h2) (go1 trivial ?_)
   refine UcR [1000000,1000001,1000002] trivial (hk) (go1 trivial ?_)
   refine UcR [1000002] trivial (hw) (go1 trivial ?_)
   refine UcR [1000001] trivial (h3) (go1 trivial ?_)
   refine UcR [1000001] trivial (hce) (go1 trivial ?_)
   refine Uc trivial (hf) (go1 trivial ?_)
   refine fin_L [1000000,1000001,1000002] ?_ ?_ rfl ?_
   all_goals exact Ag trivial
  ·refine Bk c_Z34 mixed 3 (go1 trivial ?_)
   refine UcR [1000001] trivial (h1) (go1 trivial ?_)
   refine UcR [1000001] trivial (h2) (go1 trivial ?_)
   refine UcR [1000000,1000001,1000002] trivial (hk) (go1 trivial ?_)
   refine UcR [1000002] trivial (hw) (go1 trivial ?_)
   refine UcR [1000001] trivial (h3) (go1 trivial ?_)
   refine UcR [1000001] trivial (hce) (go1 trivial ?_)
   refine Uc trivial (hf) (go1 trivial ?_)
   refine fin_L [1000000,1000001,1000002] ?_ ?_ rfl ?_
   all_goals exact Ag trivial
 ·by_cases hj0 : 0 < j1
  ·have hn4 : ¬ n ≤ 4:=fun h=>hc ⟨hj0,h⟩
   refine Bk c_Z34 mixed 3 (go1 trivial ?_)
   refine UcR [1000001] trivial (h1) (go1 trivial ?_)
   refine UcR [1000001] trivial (h2) (go1 trivial ?_)
   refine UcR [1000000,1000001,1000002] trivial (hk) (go1 trivial ?_)
   refine UcR [1000002] trivial (hw) (go1 trivial ?_)
   refine UcR [1000001] trivial (h3) (go1 trivial ?_)
   refine UcR [1000001] trivial (hce) (go1 trivial ?_)
   refine Uc trivial (hf) (go1 trivial ?_)
   refine fin_L [1000000,1000001,1000002] ?_ ?_ rfl ?_
   all_goals exact Ag trivial
  ·refine Bk c_Z34 mixed 3 (go1 trivial ?_)
   refine UcR [1000001] trivial (h1) (go1 trivial ?_)
   refine UcR [1000001] trivial (h2) (go1 trivial ?_)
   refine UcR [1000000,1000001,1000002] trivial (hk) (go1 trivial ?_)
   refine UcR [1000002] trivial (hw) (go1 trivial ?_)
   refine UcR [1000001] trivial (h3) (go1 trivial ?_)
   refine UcR [1000001] trivial (hce) (go1 trivial ?_)
   refine Uc trivial (hf) (go1 trivial ?_)
   refine fin_L [1000000,1000001,1000002] ?_ ?_ rfl ?_
   all_goals exact Ag trivial
 ·subst hc
  refine Bk c_Z34 mixed 3 (go1 trivial ?_)
  refine UcR [1000001] trivial (h1) (go1 trivial ?_)
  refine UcR [1000001] trivial (h2) (go1 trivial ?_)
  refine UcR [1000000,1000001,1000002] trivial (hk) (go1 trivial ?_)
  refine UcR [1000002] trivial (hw) (go1 trivial ?_)
  refine UcR [1000001] trivial (h3) (go1 trivial ?_)
  refine UcR [1000001] trivial (hce) (go1 trivial ?_)
  refine Uc trivial (hf) (go1 trivial ?_)
  refine fin_L [1000000,1000001,1000002] ?_ ?_ rfl ?_
  all_goals exact Ag trivial
end Go.Proofs.YtgpdmgaemhelgaaGreat
set_option maxHeartbeats 4000000
set_option maxRecDepth 100000
set_option linter.unusedVariables false
set_option linter.unusedSimpArgs false
namespace Go.Proofs.YtgpdmgaemhelgaaGreat
open Go.RowKit
mutual
noncomputable def wdV (ws : List Int) : Pl → Nat → Int
 | .mk k t es cs ks,d=>if fields (.mk k t es cs ks) then (if k = 1 then scanV ws t else if d = 0 then 0 else resV (.mk k t es cs ks) (wdL ws ks (d - 1))) else 0
noncomputable def wdL (ws : List Int) : List Pl → Nat → List Int
 | [],_=>[]
 | x :: l,d=>wdV ws x d :: wdL ws l d
end
theorem wdL_map (ws : List Int) (d : Nat) : ∀ l : List Pl,wdL ws l d = l.map (fun x=>wdV ws x d)
 | []=>by rw [wdL]; rfl
 | x :: l=>by rw [wdL,wdL_map ws d l]; rfl
theorem wd_eq (ws : List Int) (p : Pl) (d : Nat) : wdV ws p d = if fields p then (if p.k = 1 then scanV ws p.t else if d = 0 then 0 else resV p (p.ks.map (fun x=>wdV ws x (d - 1)))) else 0:=by
 cases p with
 | mk k t es cs ks=>rw [wdV,wdL_map]; rfl
theorem wd_at {ws : List Int} {l : List Pl} {d i : Nat} {x : Pl} {n : Int} (hx : l[i]? = some x) (hn : (l.map (fun x=>wdV ws x d))[i]? = some n) : n = wdV ws x d:=by
 rw [List.getElem?_map,hx] at hn
 simpa using hn.symm
theorem width_fn {ws : List Int} (hw : wsOk ws) : ∀ (p : Pl),psz p ≤ 1048576 → ∀ d : Nat,d < 1000 → (0 ≤ wdV ws p d ∧ wdV ws p d ≤ 6) ∧ Does Tryz.prog 95 [] [pD p,intsD ws,I d] (I (wdV ws p d)) [] ∧ Does Tryz.prog 56 [] [pD p,intsD ws,I d] (I (wdV ws p d)) []:=by
 refine Pl.indA (fun p ih hs d hd=>?_)
 rw [psz_eq] at hs
 have hce:=eszL_len p.es
 rw [wd_eq]
 by_cases hf : fields p
 ·rw [if_pos hf]
  by_cases hk : p.k = 1
  ·rw [if_pos hk]
   exact ⟨scan_range hw p.t,planWidth_scan p ws hw d hf hk,widthWithin_scan p ws hw d hf hk⟩
  ·rw [if_neg hk]
   have hks : 1 ≤ p.ks.length:=by unfold fields at hf; omega
   by_cases hd0 : d = 0
   ·subst hd0
    rw [if_pos rfl]
    refine ⟨by decide,planWidth_0 p ws hf (by omega),?_⟩
    by_cases hfi : fieldsI p
    ·have h:=widthWithin_main p ws 0 (by decide) hfi hk (by omega) (by omega) (List.replicate p.ks.length 0) (by rw [List.length_replicate]) (fun j x hj=>by have:=List.eq_of_mem_replicate (List.mem_of_getElem? hj); omega) (fun i x n hx hn=>by
      obtain rfl : n = 0:=List.eq_of_mem_replicate (List.mem_of_getElem? hn)
      exact widthWithin_neg x ws)
     rw [resV_z ⟨0,by rw [List.getElem?_replicate,if_pos (by omega)]⟩] at h
     exact h
    ·exact widthWithin_no p ws 0 hfi
   ·rw [if_neg hd0]
    have hc1 : ((d - 1 : Nat) : Int) = (d : Int) - 1:=by omega
    have hp : ∀ (x : Pl),x ∈ p.ks → (0 ≤ wdV ws x (d - 1) ∧ wdV ws x (d - 1) ≤ 6) ∧ Does Tryz.prog 95 [] [pD x,intsD ws,I ((d : Int) - 1)] (I (wdV ws x (d - 1))) [] ∧ Does Tryz.prog 56 [] [pD x,intsD ws,I ((d : Int) - 1)] (I (wdV ws x (d - 1))) []:=fun x hx=>by
     have:=ih x hx (by have:=pszL_mem hx; omega) (d - 1) (by omega)
     rw [hc1] at this
     exact this
    have hl : (p.ks.map (fun x=>wdV ws x (d - 1))).length = p.ks.length:=List.length_map ..
    have hn : ∀ (j : Nat) (x : Int),(p.ks.map (fun x=>wdV ws x (d - 1)))[j]? = some x → 0 ≤ x ∧ x ≤ 6:=fun j x hj=>by
     obtain ⟨y,hy,rfl⟩:=List.mem_map.1 (List.mem_of_getElem? hj)
     exact (hp y hy).1
    refine ⟨resV_range p _ hn,planWidth_main p ws d hd (by omega) hf hk (by omega) (by omega) _ hl hn (fun i x n hx hn=>?_),?_⟩
    ·obtain rfl:=wd_at hx hn
     exact (hp x (List.mem_of_getElem? hx)).2.1
    ·by_cases hfi : fieldsI p
     ·exact widthWithin_main p ws d hd hfi hk (by omega) (by omega) _ hl hn (fun i x n hx hn=>by
       obtain rfl:=wd_at hx hn
       exact (hp x (List.mem_of_getElem? hx)).2.2)
     ·rw [resV_f (fun h=>hfi h.1)]
      exact widthWithin_no p ws d hfi
 ·rw [if_neg hf]
  exact ⟨by decide,planWidth_no p ws d hf,widthWithin_no p ws d (fun h=>hf h.1)⟩
noncomputable def PV (ws : List Int) (p : Pl) : Int:=if wsOk ws then wdV ws p 8 else 0
theorem PV_t {ws : List Int} (h : wsOk ws) (p : Pl) : PV ws p = wdV ws p 8:=if_pos h
theorem PV_ok {ws : List Int} {p : Pl} (h : PV ws p ≠ 0) : wsOk ws:=Classical.byContradiction fun hn=>h (if_neg hn)
theorem PlanWidth_fn (p : Pl) (hs : psz p ≤ 1048576) (ws : List Int) (hl : ws.length ≤ 1048576) : (0 ≤ PV ws p ∧ PV ws p ≤ 6) ∧ Does Tryz.prog 53 [] [pD p,intsD ws] (I (PV ws p)) [] ∧ Does Tryz.prog 19 [] [pD p,intsD ws] (I (PV ws p)) []:=by
 have h1:=validWidths_spec ws hl
 have h2:=validWidths_impl ws hl
 by_cases hw : wsOk ws
 ·rw [decide_eq_true hw] at h1 h2
  rw [PV_t hw]
  obtain ⟨hn,hA,hB⟩:=width_fn hw p hs 8 (by decide)
  refine ⟨hn,?_,?_⟩
  ·refine Bg c_Z142 mixed (go1 trivial ?_)
   refine Uc trivial (h1) (go1 trivial ?_)
   exact Uc trivial (hA) (go0 trivial)
  ·refine Bg c_Z88 mixed (go1 trivial ?_)
   refine Uc trivial (h2) (go1 trivial ?_)
   exact Uc trivial (hB) (go0 trivial)
 ·rw [decide_eq_false hw] at h1 h2
  rw [show PV ws p = 0 from if_neg hw]
  refine ⟨by decide,?_,?_⟩
  ·refine Bg c_Z142 mixed (go1 trivial ?_)
   exact Uc trivial (h1) (go0 trivial)
  ·refine Bg c_Z88 mixed (go1 trivial ?_)
   exact Uc trivial (h2) (go0 trivial)
/-! What follows from a width. -/
theorem wd_fields {ws : List Int} {p : Pl} {d : Nat} (h : wdV ws p d ≠ 0) : fields p:=Classical.byContradiction fun hf=>h (by rw [wd_eq,if_neg hf])
theorem wd_scan {ws : List Int} {p : Pl} {d : Nat} (h : wdV ws p d ≠ 0) (hk : p.k = 1) : wdV ws p d = scanV ws p.t ∧ 0 ≤ p.t ∧ p.t ≤ (ws.length : Int) - 1:=by
 have hf:=wd_fields h
 rw [wd_eq,if_pos hf,if_pos hk] at h ⊢
 exact ⟨rfl,Decidable.byContradiction fun hn=>h (if_neg hn)⟩
theorem wd_res {ws : List Int} {p : Pl} {d : Nat} (h : wdV ws p d ≠ 0) (hk : ¬ p.k = 1) : d ≠ 0 ∧ wdV ws p d = resV p (p.ks.map (fun x=>wdV ws x (d - 1))):=by
 have hf:=wd_fields h
 rw [wd_eq,if_pos hf,if_neg hk] at h ⊢
 by_cases hd : d = 0
 ·rw [if_pos hd] at h
  exact absurd rfl h
 ·rw [if_neg hd]
  exact ⟨hd,rfl⟩
theorem wd_fit {ws : List Int} {p : Pl} {d : Nat} (h : wdV ws p d ≠ 0) (hk : ¬ p.k = 1) : (fieldsI p ∧ fitsV p (p.ks.map (fun x=>wdV ws x (d - 1)))) ∧ wdV ws p d = fromV p (p.ks.map (fun x=>wdV ws x (d - 1))) ∧ ∀ x,x ∈ p.ks → wdV ws x (d - 1) ≠ 0:=by
 obtain ⟨hd,hr⟩:=wd_res h hk
 rw [hr] at h
 have hz : ¬ zeroIn (p.ks.map (fun x=>wdV ws x (d - 1))):=fun hz=>h (resV_z hz)
 have hv : fieldsI p ∧ fitsV p (p.ks.map (fun x=>wdV ws x (d - 1))):=Classical.byContradiction fun hv=>h (resV_f hv)
 refine ⟨hv,by rw [hr,resV_t hz hv.1 hv.2],fun x hx h0=>hz ?_⟩
 obtain ⟨j,hj⟩:=List.mem_iff_getElem?.1 hx
 exact ⟨j,by rw [List.getElem?_map,hj,Option.map_some,h0]⟩
theorem wd_mono {ws : List Int} : ∀ (p : Pl) (d d' : Nat),d ≤ d' → wdV ws p d ≠ 0 → wdV ws p d' = wdV ws p d:=by
 refine Pl.indA (fun p ih d d' hd h=>?_)
 by_cases hk : p.k = 1
 ·rw [wd_eq,wd_eq ws p d,if_pos hk,if_pos hk]
 ·obtain ⟨h0,hr⟩:=wd_res h hk
  have hf:=wd_fields h
  have hkid:=(wd_fit h hk).2.2
  rw [hr,wd_eq,if_pos hf,if_neg hk,if_neg (by omega)]
  congr 1
  exact List.map_congr_left (fun x hx=>ih x hx (d - 1) (d' - 1) (by omega) (hkid x hx))
end Go.Proofs.YtgpdmgaemhelgaaGreat
set_option maxHeartbeats 4000000
set_option maxRecDepth 100000
namespace Go.Proofs.YtgpdmgaemhelgaaGreat
open Go.RowKit
def stN (ns : List Int) (i : Nat) : Int:=if (i : Int) ∈ ns then 4 else 7
def stL (ns : List Int) (w : Nat) : List Int:=(List.range w).map (stN ns)
theorem stL_len (ns : List Int) (w : Nat) : (stL ns w).length = w:=by unfold stL; rw [List.length_map,List.length_range]
theorem stL_get (ns : List Int) {w i : Nat} (h : i < w) : (stL ns w)[i]? = some (stN ns i):=by unfold stL; rw [List.getElem?_map,List.getElem?_range h]; rfl
theorem stL_ok (ns : List Int) (w : Nat) : ∀ (j : Nat) (s : Int),(stL ns w)[j]? = some s → 1 ≤ s ∧ s ≤ 7:=by
 intro j s hj
 obtain ⟨i,_,rfl⟩:=List.mem_map.1 (List.mem_of_getElem? hj)
 unfold stN
 split <;> decide
theorem mem_next {ns : List Int} {k : Nat} {x v : Int} (hx : ns[k]? = some x) : v ∈ ns.take (k + 1) ↔ v ∈ ns.take k ∨ v = x:=by
 rw [take_next hx,List.mem_append,List.mem_singleton]
theorem nullStates_ok (w : Nat) (hw : w ≤ 6) (ns : List Int) (hl : ns.length ≤ 1048576) : Does Tryz.prog 188 [] [I w,intsD ns] (intsD (stL ns w)) []:=by
 have hsl:=stL_len ns w
 refine Bg c_Z80 mixed (go1 trivial ?_)
 refine dw_for (c:=1) (l:=fun i=>[(0,I w),(1,intsD ns),(5,.own 1000000 1 i),(6,I i),(1000000,.row 1 (((stL ns w).take i).map I))]) w (fun _=>True) 0 trivial ((wk_row 5 2000030 1 (by decide) (by decide) rfl rfl).trans (Wk.list [2000030] rfl rfl ?_)) (fun i hi _=>?_) (Nat.zero_le _)
 ·repeat' (first|(conv in hold _=>simp (disch:=omega) only [go_sem])|exact trivial|exact Sub.refl _|omega)
  exact rfl
 ·have hlt:=take_len (vs:=stL ns w) (i:=i) (by omega)
  have hmt:=take_map I (vs:=stL ns w) (i:=i) (by omega)
  by_cases hil : i < w
  ·have hget:=stL_get ns hil
   have hnx:=take_next hget
   refine go1 trivial ?_
   refine dw_for (c:=1) (l:=fun k=>[(0,I w),(1,intsD ns),(5,.own 1000000 1 i),(6,I i),(7,I (if (i : Int) ∈ ns.take k then 4 else 7)),(8,I k),(1000000,.row 1 (((stL ns w).take i).map I))]) ns.length (fun _=>True) 0 trivial (Wk.list [1000000] rfl rfl ?_) (fun k hk _=>?_) (Nat.zero_le _)
   ·repeat' (first|(conv in hold _=>simp (disch:=omega) only [go_sem])|exact trivial|exact Sub.refl _|omega)
    exact ⟨rfl,rfl⟩
   ·rcases at_or_end hk with ⟨x,hx,hltk⟩ | rfl
    ·have hm:=mem_next (v:=(i : Int)) hx
     by_cases hxi : x = i
     ·have h4 : (if (i : Int) ∈ ns.take (k + 1) then (4 : Int) else 7) = 4:=if_pos (hm.2 (Or.inr hxi.symm))
      refine go1 @hx ?_
      refine ⟨hltk,trivial,Wk.list [1000000] rfl rfl ?_⟩
      exact Ag @h4
     ·have h4 : (if (i : Int) ∈ ns.take (k + 1) then (4 : Int) else 7) = if (i : Int) ∈ ns.take k then 4 else 7:=by
       by_cases hmk : (i : Int) ∈ ns.take k
       ·rw [if_pos hmk,if_pos (hm.2 (Or.inl hmk))]
       ·rw [if_neg hmk,if_neg (fun h=>(hm.1 h).elim hmk (fun h=>hxi h.symm))]
      refine go1 @hx ?_
      refine ⟨hltk,trivial,Wk.list [1000000] rfl rfl ?_⟩
      exact Ag @h4
    ·have e1 : ns.take ns.length = ns:=List.take_length
     have hsn : (if (i : Int) ∈ ns then (4 : Int) else 7) = stN ns i:=rfl
     refine go1 (cj2 @e1 @hsn) ?_
     refine ⟨hil,trivial,Wk.list [2000030] rfl rfl ?_⟩
     repeat' (first|(conv in hold _=>simp (disch:=omega) only [go_sem])|exact trivial|exact Sub.refl _|omega)
     rw [hmt,hnx,List.map_append,List.map_cons,List.map_nil]
  ·obtain rfl : i = w:=by omega
   have e1 : (stL ns i).take i = stL ns i:=List.take_of_length_le (by omega)
   have e2 : ((stL ns i).map I).take i = (stL ns i).map I:=List.take_of_length_le (by rw [List.length_map]; omega)
   refine go1F @e1 ?_
   refine fin_wk (wk_frz 4 1000000 (by decide) (by decide) rfl ?_) ?_
   rotate_left
   (conv in hold _=>simp (disch:=omega) only [go_sem,e2,hsl,Nat.le_refl])
   ·refine fin_L [] ?_ ?_ rfl ?_
    all_goals exact Ag trivial
   ·exact ints_pur _
theorem first_at {v : Int} : ∀ l : List Int,v ∈ l → ∃ i0 : Nat,l[i0]? = some v ∧ ∀ j,j < i0 → ¬ l[j]? = some v
 | [],h=>by cases h
 | a :: l,h=>by
  by_cases ha : a = v
  ·exact ⟨0,by rw [ha]; rfl,fun j hj=>by omega⟩
  ·have hm : v ∈ l:=by
    rcases List.mem_cons.1 h with h | h
    ·exact (ha h.symm).elim
    ·exact h
   obtain ⟨i,h1,h2⟩:=first_at l hm
   refine ⟨i + 1,by simpa using h1,fun j hj=>?_⟩
   rcases j with _ | j
   ·simpa using ha
   ·simpa using h2 j (by omega)
theorem index_ok (ns : List Int) (hl : ns.length ≤ 1048576) (v : Int) : ∃ j : Int,(0 ≤ j ↔ v ∈ ns) ∧ Does Tryz.prog 171 [] [intsD ns,I v] (I j) []:=by
 by_cases hm : v ∈ ns
 ·obtain ⟨i0,h0,hmin⟩:=first_at ns hm
  have hlt0:=(List.getElem?_eq_some_iff.1 h0).1
  refine ⟨i0,⟨fun _=>hm,fun _=>by omega⟩,?_⟩
  refine Bg c_Z14 mixed (go1 trivial ?_)
  refine dw_for (c:=0) (l:=fun i=>[(0,intsD ns),(1,I v),(7,I ns.length),(8,I i)]) ns.length (fun i=>i ≤ i0) 0 (by omega) (Wk.list [] rfl rfl ?_) (fun i hi hJ=>?_) (Nat.zero_le _)
  ·repeat' (first|(conv in hold _=>simp (disch:=omega) only [go_sem])|exact trivial|exact Sub.refl _|omega)
   exact rfl
  ·obtain ⟨x,hx⟩ : ∃ x,ns[i]? = some x:=⟨_,List.getElem?_eq_getElem (by omega)⟩
   by_cases hxi : v = x
   ·have hii : i = i0:=by
     by_cases hlt : i < i0
     ·exact (hmin i hlt (by rw [hx,hxi])).elim
     ·omega
    rw [← hii]
    exact go0 @hx
   ·have hne : i < i0:=by
     by_cases he : i = i0
     ·rw [he,h0] at hx
      cases hx
      exact (hxi rfl).elim
     ·omega
    refine go1 @hx ?_
    refine ⟨by omega,by omega,Wk.list [] rfl rfl ?_⟩
    exact Ag trivial
 ·refine ⟨-1,⟨fun h=>by omega,fun h=>(hm h).elim⟩,?_⟩
  refine Bg c_Z14 mixed (go1 trivial ?_)
  refine dw_for (c:=0) (l:=fun i=>[(0,intsD ns),(1,I v),(7,I ns.length),(8,I i)]) ns.length (fun _=>True) 0 trivial (Wk.list [] rfl rfl ?_) (fun i hi _=>?_) (Nat.zero_le _)
  ·repeat' (first|(conv in hold _=>simp (disch:=omega) only [go_sem])|exact trivial|exact Sub.refl _|omega)
   exact rfl
  ·rcases at_or_end hi with ⟨x,hx,hlt⟩ | rfl
   ·have hxi : ¬ v = x:=fun h=>hm (h ▸ List.mem_of_getElem? hx)
    refine go1 @hx ?_
    refine ⟨hlt,trivial,Wk.list [] rfl rfl ?_⟩
    exact Ag trivial
   ·exact go0 trivial
theorem contains_ok (ns : List Int) (hl : ns.length ≤ 1048576) (v : Int) : Does Tryz.prog 133 [] [intsD ns,I v] (Bo (decide (v ∈ ns))) []:=by
 obtain ⟨j,hj,hd⟩:=index_ok ns hl v
 refine Bg c_Z11 mixed (go1 trivial ?_)
 refine Uc trivial (hd) (go1 trivial ?_)
 exact Sub.of_eq (congrArg (fun b=>D.v (.bool b)) (decide_eq_decide.2 hj))
end Go.Proofs.YtgpdmgaemhelgaaGreat
