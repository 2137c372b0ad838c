/-
  Steps applied one after the other, by both packages. No condition.
-/
import Derived.Test.YtgpdmgaemhelgaaGreatKSDca
import Derived.Test.YtgpdmgaemhelgaaGreatJSDcv
import Derived.Test.YtgpdmgaemhelgaaGreatJSVStS
import Derived.Test.YtgpdmgaemhelgaaGreatJSVYld
import Derived.Test.YtgpdmgaemhelgaaGreatJSDce
import Derived.Test.YtgpdmgaemhelgaaGreatJSVLaw
import Derived.Test.YtgpdmgaemhelgaaGreatJSVTruI
import Derived.Test.YtgpdmgaemhelgaaGreatJSVRsA
import Derived.Test.YtgpdmgaemhelgaaGreatJSVCols
import Derived.Test.YtgpdmgaemhelgaaGreatJSVRsC
import Derived.Test.YtgpdmgaemhelgaaGreatJSVPlanE
set_option maxHeartbeats 4000000
set_option maxRecDepth 100000
set_option linter.unusedVariables false
set_option linter.unusedSimpArgs false
namespace Go.Proofs.YtgpdmgaemhelgaaGreat
open Go.RowKit
noncomputable def asF (ws : List Int) (o : Option Pl) (S : List (Int × List Int)) : Option Pl:=S.foldl (fun o s=>o.bind fun x=>apP ws s.1 s.2 x) o
noncomputable def asP (ws : List Int) (S : List (Int × List Int)) (p : Pl) : Option Pl:=asF ws (some p) S
theorem asF_none (ws : List Int) : ∀ S : List (Int × List Int),asF ws none S = none
 | []=>rfl
 | s :: S=>asF_none ws S
theorem asF_append (ws : List Int) (o : Option Pl) (S T : List (Int × List Int)) : asF ws o (S ++ T) = asF ws (asF ws o S) T:=List.foldl_append
theorem asP_split (ws : List Int) (S T : List (Int × List Int)) (p : Pl) : asP ws (S ++ T) p = (asP ws S p).bind fun x=>asP ws T x:=by
 unfold asP
 rw [asF_append]
 cases asF ws (some p) S with
 | none=>exact asF_none ws T
 | some x=>rfl
theorem asP_next {ws : List Int} {S : List (Int × List Int)} {p : Pl} {i : Nat} {s : Int × List Int} (h : S[i]? = some s) : asP ws (S.take (i + 1)) p = (asP ws (S.take i) p).bind fun x=>apP ws s.1 s.2 x:=by
 rw [take_next h,asP_split]
 rfl
theorem asP_stop {ws : List Int} {S : List (Int × List Int)} {p : Pl} (i : Nat) (h : asP ws (S.take i) p = none) : asP ws S p = none:=by
 have:=asP_split ws (S.take i) (S.drop i) p
 rw [List.take_append_drop,h] at this
 exact this
theorem asP_wf {ws : List Int} (hw : wsOk ws) : ∀ (S : List (Int × List Int)) {p x : Pl} {w : Int},Wf ws p 8 w → asP ws S p = some x → Wf ws x 8 w
 | [],p,x,w,h,hx=>by
  obtain rfl : p = x:=Option.some.inj hx
  exact h
 | s :: S,p,x,w,h,hx=>by
  have h1:=asP_split ws [s] S p
  rw [List.singleton_append,hx] at h1
  cases h2 : asP ws [s] p with
  | none=>rw [h2] at h1; cases h1
  | some y=>
   rw [h2] at h1
   exact asP_wf hw S (apP_some hw h (show apP ws s.1 s.2 p = some y from h2)).1 h1.symm
noncomputable def asO (ws : List Int) (S : List (Int × List Int)) (p : Pl) : Option Pl:=if PV ws p = 0 ∨ 40 < S.length then none else asP ws S p
noncomputable def atS (ws : List Int) (S : List (Int × List Int)) (p : Pl) (i : Nat) : Pl:=(asP ws (S.take i) p).getD zP
theorem atS_0 (ws : List Int) (S : List (Int × List Int)) (p : Pl) : atS ws S p 0 = p:=rfl
theorem atS_next {ws : List Int} {S : List (Int × List Int)} {p x : Pl} {i : Nat} {s : Int × List Int} (h : S[i]? = some s) (hJ : asP ws (S.take i) p = some (atS ws S p i)) (hx : apP ws s.1 s.2 (atS ws S p i) = some x) : asP ws (S.take (i + 1)) p = some (atS ws S p (i + 1)) ∧ atS ws S p (i + 1) = x:=by
 have h1 : asP ws (S.take (i + 1)) p = some x:=by rw [asP_next h,hJ]; exact hx
 have h2 : atS ws S p (i + 1) = x:=by unfold atS; rw [h1]; rfl
 exact ⟨by rw [h2]; exact h1,h2⟩
section
variable {ws : List Int} (hl : ws.length ≤ 1048576) {p : Pl} (hs : psz p ≤ 1048576) (S : List (Int × List Int)) (hS : ∀ s,s ∈ S → s.2.length < 2000000) (hn : S.length ≤ 1048576)
include hl hs hS hn
theorem certTo_ok : Does Tryz.prog 63 [] [.sl 2 (S.map stE),pD p,intsD ws] (paD (asO ws S p)) []:=by
 obtain ⟨_,_,h1⟩:=PlanWidth_fn p hs ws hl
 have hml : (S.map stE).length = S.length:=List.length_map ..
 unfold asO
 by_cases hz : PV ws p = 0 ∨ 40 < S.length
 ·rw [if_pos hz]
  unfold paD
  by_cases h40 : 40 < S.length
  ·refine Bg c_Z14 mixed (go1 @hml ?_)
   exact zP_sub
  ·rw [show PV ws p = 0 by omega] at h1
   refine Bg c_Z14 mixed (go1 @hml ?_)
   refine Uc trivial (h1) (go1 trivial ?_)
   exact zP_sub
 ·rw [if_neg hz]
  obtain ⟨hw,hwf⟩:=PV_wf (show PV ws p ≠ 0 by omega)
  have hne : (PV ws p == 0) = false:=beq_eq_false_iff_ne.2 (by omega)
  have h40 : S.length ≤ 40:=by omega
  generalize PV ws p = w at *
  suffices hh : ∀ rr : D,(∀ x,asP ws S p = some x → rr = .tup [pD x,Bo true]) → (asP ws S p = none → rr = .tup [pD zP,Bo false]) → Does Tryz.prog 63 [] [.sl 2 (S.map stE),pD p,intsD ws] rr [] from
   hh _ (fun x hx=>by rw [hx]; rfl) (fun hx=>by rw [hx]; rfl)
  intro rr ht hf
  refine Bg c_Z14 mixed (go1 @hml ?_)
  refine Uc (cj2 @hne @hml) (h1) (go1 (cj2 @hne @hml) ?_)
  refine dw_for (c:=2) (l:=fun i=>[(2,intsD ws),(4,.ref 1000000 0),(6,.ref 1000001 0),(7,Bo false),(22,.sl 2 (S.map stE)),(23,I S.length),(24,I i),(1000000,.obj [I (atS ws S p i).k,I (atS ws S p i).t,.sl 5 ((atS ws S p i).es.map eD),intsD (atS ws S p i).cs,.sl 5 ((atS ws S p i).ks.map pD)]),(1000001,.obj [I 0,I 0,.nul,.nul,.nul])]) S.length (fun i=>asP ws (S.take i) p = some (atS ws S p i)) 0 rfl (Wk.list [2000004,2000006] rfl rfl ?_) (fun i hi hJ=>?_) (Nat.zero_le _)
  ·repeat' (first|(conv in hold _=>simp (disch:=omega) only [go_sem,atS_0,hml])|exact trivial|exact Sub.refl _|omega)
   (repeat' apply And.intro) <;> rfl
  ·rcases at_or_end hi with ⟨s,hs0,hlt⟩ | rfl
   ·have hdat : (S.map stE)[i]? = some (.agg [I s.1,.sl 1 (s.2.map I)]):=by rw [List.getElem?_map,hs0]; rfl
    have hwi:=asP_wf hw (S.take i) hwf hJ
    have hat:=applyTo_ok hw hwi s.1 s.2 (hS s (List.mem_of_getElem? hs0))
    unfold stD intsD at hat
    cases ho : apP ws s.1 s.2 (atS ws S p i) with
    | none=>
     rw [ho] at hat
     rw [hf (asP_stop (i + 1) (by rw [asP_next hs0,hJ]; exact ho))]
     unfold paD at hat
     generalize S.map stE = ds at *
     refine go1 (cj2 @hdat @hml) ?_
     refine Uc (cj3 @hdat @hml @intsD.eq_1) (hat) (go1 (cj3 @hdat @hml @intsD.eq_1) ?_)
     exact zP_sub
    | some x=>
     rw [ho] at hat
     obtain ⟨n1,n2⟩:=atS_next hs0 hJ ho
     unfold paD at hat
     generalize S.map stE = ds at *
     refine go1 (cj2 @hdat @hml) ?_
     refine Uc (cj3 @hdat @hml @intsD.eq_1) (hat) (go1 (cj3 @hdat @hml @intsD.eq_1) ?_)
     refine ⟨hlt,n1,Wk.list [1000000,1000001] rfl rfl ?_⟩
     repeat' (first|(conv in hold _=>simp (disch:=omega) only [go_sem,n2,intsD])|exact trivial|exact Sub.refl _|omega)
   ·have e1 : S.take S.length = S:=List.take_length
    rw [e1] at hJ
    rw [ht _ hJ]
    exact go0 @hml
end
end Go.Proofs.YtgpdmgaemhelgaaGreat
set_option maxHeartbeats 4000000
set_option maxRecDepth 100000
set_option linter.unusedVariables false
set_option linter.unusedSimpArgs false
namespace Go.Proofs.YtgpdmgaemhelgaaGreat
open Go.RowKit
theorem equalSteps_same (S : List (Int × List Int)) (hl : S.length ≤ 20000000) (hS : ∀ s,s ∈ S → s.2.length < 2000000) : Does Tryz.prog 23 [] [.sl 2 (S.map stE),.sl 2 (S.map stE)] (Bo true) []:=by
 have hlm : (S.map stE).length = S.length:=List.length_map ..
 have hat : ∀ (i : Nat) (s : Int × List Int),S[i]? = some s → (S.map stE)[i]? = some (.agg [I s.1,.sl 1 (s.2.map I)]):=fun i s hs=>by rw [List.getElem?_map,hs]; rfl
 generalize S.map stE = ds at *
 refine Bg c_Z88 mixed (go1 @hlm ?_)
 refine dw_for (c:=0) (l:=fun i=>[(0,.sl 2 ds),(1,.sl 2 ds),(5,I i)]) S.length (fun _=>True) 0 trivial (Wk.list [] rfl rfl ?_) (fun i hi _=>?_) (Nat.zero_le _)
 ·repeat' (first|(conv in hold _=>simp (disch:=omega) only [go_sem])|exact trivial|exact Sub.refl _|omega)
  (repeat' apply And.intro) <;> rfl
 ·rcases at_or_end hi with ⟨s,hs,hlt⟩ | rfl
  ·have hd:=hat i s hs
   have h1:=eqIntsP_ok s.2 (hS s (List.mem_of_getElem? hs))
   unfold intsD at h1
   refine go1 (cj2 @hd @hlm) ?_
   refine Uc trivial (h1) (go1 trivial ?_)
   refine ⟨hlt,trivial,Wk.list [] rfl rfl ?_⟩
   exact Ag trivial
  ·exact go0 @hlm
end Go.Proofs.YtgpdmgaemhelgaaGreat
set_option maxHeartbeats 4000000
set_option maxRecDepth 100000
set_option linter.unusedVariables false
set_option linter.unusedSimpArgs false
namespace Go.Proofs.YtgpdmgaemhelgaaGreat
open Go.RowKit
mutual
theorem pt_fst : ∀ (p : Pl) (pre : List Int),(ptP p pre).map Prod.fst = pathsP p pre
 | .mk k t es cs ks,pre=>by rw [ptP,pathsP,List.map_cons,ptL_fst ks pre 0]
theorem ptL_fst : ∀ (l : List Pl) (pre : List Int) (i : Nat),(ptL l pre i).map Prod.fst = pathsL l pre i
 | [],_,_=>rfl
 | p :: l,pre,i=>by rw [ptL,pathsL,List.map_append,pt_fst p,ptL_fst l]
end
theorem pt_at : ∀ (p : Pl) (pre l : List Int) (a : Pl),(l,a) ∈ ptP p pre → ∃ m,l = pre ++ m ∧ paOf p m = some a:=by
 refine Pl.indA (fun p ih pre l a h=>?_)
 rw [ptP_eq] at h
 rcases List.mem_cons.1 h with h | h
 ·obtain ⟨rfl,rfl⟩:=Prod.mk.inj h
  exact ⟨[],(List.append_nil _).symm,rfl⟩
 ·obtain ⟨j,q,hq,hx⟩:=ptL_mem h
  obtain ⟨m,rfl,hm⟩:=ih q (List.mem_of_getElem? hq) _ _ _ hx
  refine ⟨((0 + j : Nat) : Int) :: m,by rw [List.append_assoc]; rfl,?_⟩
  rw [paOf]
  have hk : kidAt p ((0 + j : Nat) : Int) = some q:=by
   unfold kidAt
   rw [if_pos (by omega),Nat.zero_add,Int.toNat_natCast]
   exact hq
  rw [hk]
  exact hm
theorem pt_path {p : Pl} {l : List Int} {a : Pl} (h : (l,a) ∈ ptP p []) : paOf p l = some a:=by
 obtain ⟨m,rfl,hm⟩:=pt_at p [] l a h
 exact hm
theorem apP_lv {ws : List Int} (hw : wsOk ws) {p a : Pl} {w : Int} (h : Wf ws p 8 w) {l : List Int} (ha : paOf p l = some a) (r : Int) : (lvP ws (8 - l.length) (ruP ws r a)).isSome = (apP ws r l p).isSome:=by
 unfold apP lvP
 rw [ha,Option.bind_some]
 cases hq : ruP ws r a with
 | none=>rfl
 | some q=>
  obtain ⟨_,hpart⟩:=apP_part hw h ha hq
  rw [Option.bind_some,Option.bind_some]
  by_cases hz : wdV ws q (8 - l.length) = 0
  ·rw [if_pos hz,if_pos (hpart.1 hz)]
  ·rw [if_neg hz,if_neg (fun g=>hz (hpart.2 g))]
   rfl
theorem stepsTo_app (ws : List Int) (p : Pl) (a b : List (List Int)) : stepsTo ws p (a ++ b) = stepsTo ws p a ++ stepsTo ws p b:=List.flatMap_append
theorem stepsAt_pre (ws : List Int) (p : Pl) (l : List Int) {n m : Nat} (h : n ≤ m) : ∃ t,stepsAt ws p l m = stepsAt ws p l n ++ t:=by
 induction m with
 | zero=>
  obtain rfl : n = 0:=by omega
  exact ⟨[],(List.append_nil _).symm⟩
 | succ m ih=>
  by_cases e : n = m + 1
  ·subst e; exact ⟨[],(List.append_nil _).symm⟩
  ·obtain ⟨t,ht⟩:=ih (by omega)
   exact ⟨t ++ (if (apP ws ((m : Int) + 1) l p).isSome = true then [((m : Int) + 1,l)] else []),by rw [stepsAt,ht,List.append_assoc]⟩
theorem step_at {ws : List Int} {p : Pl} {ls : List (List Int)} {i : Nat} {l : List Int} (hi : ls[i]? = some l) {n : Nat} (hn : n < 11) (ha : (apP ws ((n : Int) + 1) l p).isSome = true) :
  (stepsTo ws p ls)[(stepsTo ws p (ls.take i)).length + (stepsAt ws p l n).length]? = some ((n : Int) + 1,l):=by
 have hl:=(List.getElem?_eq_some_iff.1 hi).1
 have h1 : stepsTo ws p ls = stepsTo ws p (ls.take i) ++ (stepsAt ws p l 11 ++ stepsTo ws p (ls.drop (i + 1))):=by
  have hd : ls.drop i = l :: ls.drop (i + 1):=by
   rw [List.drop_eq_getElem_cons hl]
   congr 1
   exact (List.getElem?_eq_some_iff.1 hi).2
  conv=>lhs; rw [← List.take_append_drop i ls,hd,stepsTo_app]
  congr 1
 obtain ⟨t,ht⟩:=stepsAt_pre ws p l (n:=n + 1) (m:=11) (by omega)
 have hs : stepsAt ws p l (n + 1) = stepsAt ws p l n ++ [((n : Int) + 1,l)]:=by rw [stepsAt,if_pos ha]
 rw [h1,List.getElem?_append_right (by omega),Nat.add_sub_cancel_left,ht,hs,List.append_assoc,List.append_assoc,List.getElem?_append_right (Nat.le_refl _),Nat.sub_self]
 rfl
theorem stepsTo_mono (ws : List Int) (p : Pl) (ls : List (List Int)) (i : Nat) : (stepsTo ws p (ls.take i)).length ≤ (stepsTo ws p ls).length:=by
 have h:=stepsTo_app ws p (ls.take i) (ls.drop i)
 rw [List.take_append_drop] at h
 rw [h,List.length_append]
 omega
theorem step_part (ws : List Int) (p : Pl) (ls : List (List Int)) (e : Nat) (h : e < (stepsTo ws p ls).length) : ∃ i l,ls[i]? = some l ∧ (stepsTo ws p (ls.take i)).length ≤ e ∧ e < (stepsTo ws p (ls.take i)).length + (stepsAt ws p l 11).length:=by
 have main : ∀ n,n ≤ ls.length → e < (stepsTo ws p (ls.take n)).length → ∃ i l,ls[i]? = some l ∧ (stepsTo ws p (ls.take i)).length ≤ e ∧ e < (stepsTo ws p (ls.take i)).length + (stepsAt ws p l 11).length:=by
  intro n
  induction n with
  | zero=>intro _ hn; rw [List.take_zero] at hn; exact absurd hn (Nat.not_lt_zero _)
  | succ n ih=>
   intro hl hn
   by_cases hlt : e < (stepsTo ws p (ls.take n)).length
   ·exact ih (by omega) hlt
   ·obtain ⟨l,hl0⟩ : ∃ l,ls[n]? = some l:=⟨_,List.getElem?_eq_getElem (by omega)⟩
    rw [stepsTo_next hl0,List.length_append] at hn
    exact ⟨n,l,hl0,by omega,hn⟩
 exact main ls.length (Nat.le_refl _) (by rw [List.take_length]; exact h)
def lowR (r : Int) : Bool:=r != 2 && r != 5 && r != 6
noncomputable def fsP (ws : List Int) (p : Pl) : Option (Int × List Int):=(stepsP ws p).find? fun s=>lowR s.1
theorem stepsTo_some {ws : List Int} {p : Pl} {ls : List (List Int)} {s : Int × List Int} (h : s ∈ stepsTo ws p ls) : ∃ x,apP ws s.1 s.2 p = some x:=by
 obtain ⟨l,_,hs⟩:=List.mem_flatMap.1 h
 have main : ∀ n,s ∈ stepsAt ws p l n → ∃ x,apP ws s.1 s.2 p = some x:=by
  intro n
  induction n with
  | zero=>intro h; cases h
  | succ n ih=>
   intro h
   rw [stepsAt,List.mem_append] at h
   rcases h with h | h
   ·exact ih h
   ·split at h
    ·rename_i hq
     obtain rfl:=List.mem_singleton.1 h
     exact Option.isSome_iff_exists.1 hq
    ·cases h
 exact main 11 hs
theorem fsP_some {ws : List Int} {p : Pl} {s : Int × List Int} (h : fsP ws p = some s) : s ∈ stepsP ws p ∧ lowR s.1 = true ∧ ∃ x,apP ws s.1 s.2 p = some x:=by
 have hm:=List.mem_of_find?_eq_some h
 exact ⟨hm,by have:=List.find?_some h; exact this,stepsTo_some hm⟩
noncomputable def nxP (ws : List Int) (p : Pl) : Option ((Int × List Int) × Pl):=(fsP ws p).bind fun s=>(apP ws s.1 s.2 p).map fun x=>(s,x)
theorem nxP_some {ws : List Int} {p x : Pl} {s : Int × List Int} (h : nxP ws p = some (s,x)) : fsP ws p = some s ∧ apP ws s.1 s.2 p = some x:=by
 unfold nxP at h
 cases hf : fsP ws p with
 | none=>rw [hf] at h; cases h
 | some s'=>
  rw [hf,Option.bind_some] at h
  cases ha : apP ws s'.1 s'.2 p with
  | none=>rw [ha] at h; cases h
  | some x'=>
   rw [ha,Option.map_some,Option.some.injEq,Prod.mk.injEq] at h
   obtain ⟨rfl,rfl⟩:=h
   exact ⟨rfl,ha⟩
theorem nxP_none {ws : List Int} {p : Pl} (h : nxP ws p = none) : fsP ws p = none:=by
 cases hf : fsP ws p with
 | none=>rfl
 | some s=>
  obtain ⟨_,_,x,hx⟩:=fsP_some hf
  unfold nxP at h
  rw [hf,Option.bind_some,hx] at h
  cases h
noncomputable def nmI (ws : List Int) (p : Pl) : Nat → Pl × List (Int × List Int)
 | 0=>(p,[])
 | i + 1=>match nxP ws (nmI ws p i).1 with
  | none=>nmI ws p i
  | some (s,x)=>(x,(nmI ws p i).2 ++ [s])
noncomputable def nmP (ws : List Int) (p : Pl) : Pl × List (Int × List Int):=nmI ws p 40
noncomputable def nmO (ws : List Int) (p : Pl) : Pl × List (Int × List Int):=if PV ws p = 0 then (zP,[]) else nmP ws p
theorem nmI_none {ws : List Int} {p : Pl} {i : Nat} (h : nxP ws (nmI ws p i).1 = none) : nmI ws p (i + 1) = nmI ws p i:=by rw [nmI,h]
theorem nmI_some {ws : List Int} {p x : Pl} {s : Int × List Int} {i : Nat} (h : nxP ws (nmI ws p i).1 = some (s,x)) : nmI ws p (i + 1) = (x,(nmI ws p i).2 ++ [s]):=by rw [nmI,h]
theorem nmI_stop {ws : List Int} {p : Pl} {i : Nat} (h : nxP ws (nmI ws p i).1 = none) : ∀ j,nmI ws p (i + j) = nmI ws p i
 | 0=>rfl
 | j + 1=>by
  have ih:=nmI_stop h j
  rw [← Nat.add_assoc,nmI_none (by rw [ih]; exact h),ih]
theorem nmI_to {ws : List Int} {p : Pl} {i : Nat} (h : nxP ws (nmI ws p i).1 = none) (hi : i ≤ 40) : nmP ws p = nmI ws p i:=by
 unfold nmP
 rw [show 40 = i + (40 - i) by omega]
 exact nmI_stop h _
theorem nmI_len (ws : List Int) (p : Pl) : ∀ i,(nmI ws p i).2.length ≤ i
 | 0=>Nat.le_refl _
 | i + 1=>by
  have ih:=nmI_len ws p i
  rw [nmI]
  split
  ·omega
  ·rw [List.length_append,List.length_singleton]; omega
theorem nmI_full {ws : List Int} {p : Pl} : ∀ {i : Nat},(nmI ws p i).2.length = i ∨ nxP ws (nmI ws p i).1 = none
 | 0=>.inl rfl
 | i + 1=>by
  rcases nmI_full (ws:=ws) (p:=p) (i:=i) with h | h
  ·cases hx : nxP ws (nmI ws p i).1 with
   | none=>rw [nmI_none hx]; exact .inr hx
   | some sx=>rw [nmI_some (s:=sx.1) (x:=sx.2) hx]; exact .inl (by rw [List.length_append,h]; rfl)
  ·rw [nmI_none h]; exact .inr h
theorem nmI_as {ws : List Int} (hw : wsOk ws) {p : Pl} {w : Int} (h : Wf ws p 8 w) : ∀ i,asP ws (nmI ws p i).2 p = some (nmI ws p i).1 ∧ Wf ws (nmI ws p i).1 8 w ∧ ∀ u,scn u (nmI ws p i).1 = scn u p
 | 0=>⟨rfl,h,fun _=>rfl⟩
 | i + 1=>by
  obtain ⟨h1,h2,h3⟩:=nmI_as hw h i
  cases hx : nxP ws (nmI ws p i).1 with
  | none=>rw [nmI_none hx]; exact ⟨h1,h2,h3⟩
  | some sx=>
   obtain ⟨s,x⟩:=sx
   obtain ⟨_,ha⟩:=nxP_some hx
   obtain ⟨a1,a2⟩:=apP_some hw h2 ha
   rw [nmI_some hx]
   refine ⟨?_,a1,fun u=>(a2 u).trans (h3 u)⟩
   rw [asP_split,h1,Option.bind_some]
   show asP ws [s] (nmI ws p i).1 = some x
   have:=asP_next (ws:=ws) (S:=[s]) (p:=(nmI ws p i).1) (i:=0) (s:=s) rfl
   rw [List.take_zero] at this
   exact this.trans (by rw [show asP ws [] (nmI ws p i).1 = some (nmI ws p i).1 from rfl,Option.bind_some]; exact ha)
end Go.Proofs.YtgpdmgaemhelgaaGreat
set_option maxHeartbeats 4000000
set_option maxRecDepth 100000
set_option linter.unusedVariables false
set_option linter.unusedSimpArgs false
namespace Go.Proofs.YtgpdmgaemhelgaaGreat
open Go.RowKit
noncomputable instance ckDec (ws : List Int) (S : List (Int × List Int)) (p q : Pl) : Decidable (asO ws S p = some q):=Classical.propDecidable _
noncomputable def ckO (ws : List Int) (S : List (Int × List Int)) (p q : Pl) : Bool:=decide (asO ws S p = some q)
theorem asO_sz {ws : List Int} {S : List (Int × List Int)} {p x : Pl} (h : asO ws S p = some x) : psz x ≤ 457727:=by
 unfold asO at h
 split at h
 ·cases h
 ·rename_i hz
  obtain ⟨hw,hwf⟩:=PV_wf (show PV ws p ≠ 0 by omega)
  have:=wf_size (asP_wf hw S hwf h)
  rw [pw_8] at this
  exact this
theorem ckO_n {ws : List Int} {S : List (Int × List Int)} {p : Pl} (q : Pl) (h : asO ws S p = none) : ckO ws S p q = false:=decide_eq_false (fun g=>by rw [h] at g; cases g)
theorem ckO_t {ws : List Int} {S : List (Int × List Int)} {p q : Pl} (h : asO ws S p = some q) : ckO ws S p q = true:=decide_eq_true h
theorem ckO_f {ws : List Int} {S : List (Int × List Int)} {p x q : Pl} (h : asO ws S p = some x) (hne : ¬ x = q) : ckO ws S p q = false:=decide_eq_false (fun g=>by rw [h] at g; exact hne (Option.some.inj g))
section
variable {ws : List Int} (hl : ws.length ≤ 1048576) {p q : Pl} (hs : psz p ≤ 1048576) (hq : psz q ≤ 1048576) (S : List (Int × List Int)) (hS : ∀ s,s ∈ S → s.2.length < 2000000) (hn : S.length ≤ 1048576)
include hl hs hq hS hn
theorem CheckRewrite_impl : Does Tryz.prog 32 [] [pD p,pD q,intsD ws,.sl 2 (S.map stE)] (Bo (ckO ws S p q)) []:=by
 have h1:=certTo_ok hl hs S hS hn
 cases ho : asO ws S p with
 | none=>
  rw [ho] at h1
  rw [ckO_n q ho]
  unfold paD at h1
  generalize S.map stE = ds at *
  refine Bg c_Z43 mixed (go1 trivial ?_)
  exact Uc trivial (h1) (go0 trivial)
 | some x=>
  have hx:=asO_sz ho
  have hc:=samePlan_ok x (by omega) q hq
  rw [ho] at h1
  unfold paD at h1
  generalize S.map stE = ds at *
  by_cases hxq : x = q
  ·rw [ckO_t (by rw [ho,hxq])]
   have hc:=hc.1 hxq
   refine Bg c_Z43 mixed (go1 trivial ?_)
   refine Uc trivial (h1) (go1 trivial ?_)
   exact Uc trivial (hc) (go0 trivial)
  ·rw [ckO_f ho hxq]
   have hc:=hc.2 hxq
   refine Bg c_Z43 mixed (go1 trivial ?_)
   refine Uc trivial (h1) (go1 trivial ?_)
   exact Uc trivial (hc) (go0 trivial)
end
end Go.Proofs.YtgpdmgaemhelgaaGreat
