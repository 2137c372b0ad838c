/-
  CheckRewrite of both packages; drawn certificates. No condition.
-/
import Derived.Test.YtgpdmgaemhelgaaGreatKSDca
import Derived.Test.YtgpdmgaemhelgaaGreatKSDcj
import Derived.Test.YtgpdmgaemhelgaaGreatJSVSmS
import Derived.Test.YtgpdmgaemhelgaaGreatJSDch
import Derived.Test.YtgpdmgaemhelgaaGreatJSVSzSt
import Derived.Test.YtgpdmgaemhelgaaGreatKSVStS
import Derived.Test.YtgpdmgaemhelgaaGreatJSVWf
import Derived.Test.YtgpdmgaemhelgaaGreatJSVGo
import Derived.Test.YtgpdmgaemhelgaaGreatJSVEvI
import Derived.Test.YtgpdmgaemhelgaaGreatJSVRsB
import Derived.Test.YtgpdmgaemhelgaaGreatJSVRsD
set_option maxHeartbeats 4000000
set_option maxRecDepth 100000
set_option linter.unusedVariables false
set_option linter.unusedSimpArgs false
namespace Go.Proofs.YtgpdmgaemhelgaaGreat
open Go.RowKit
noncomputable instance ckDec (ws : List Int) (S : List (Int × List Int)) (p q : Pl) : Decidable (asO ws S p = some q):=Classical.propDecidable _
noncomputable def ckO (ws : List Int) (S : List (Int × List Int)) (p q : Pl) : Bool:=decide (asO ws S p = some q)
theorem asO_sz {ws : List Int} {S : List (Int × List Int)} {p x : Pl} (h : asO ws S p = some x) : psz x ≤ 457727:=by
 unfold asO at h
 split at h
 ·cases h
 ·rename_i hz
  obtain ⟨hw,hwf⟩:=PV_wf (show PV ws p ≠ 0 by omega)
  have:=wf_size (asP_wf hw S hwf h)
  rw [pw_8] at this
  exact this
theorem ckO_n {ws : List Int} {S : List (Int × List Int)} {p : Pl} (q : Pl) (h : asO ws S p = none) : ckO ws S p q = false:=decide_eq_false (fun g=>by rw [h] at g; cases g)
theorem ckO_t {ws : List Int} {S : List (Int × List Int)} {p q : Pl} (h : asO ws S p = some q) : ckO ws S p q = true:=decide_eq_true h
theorem ckO_f {ws : List Int} {S : List (Int × List Int)} {p x q : Pl} (h : asO ws S p = some x) (hne : ¬ x = q) : ckO ws S p q = false:=decide_eq_false (fun g=>by rw [h] at g; exact hne (Option.some.inj g))
section
variable {ws : List Int} (hl : ws.length ≤ 1048576) {p q : Pl} (hs : psz p ≤ 1048576) (hq : psz q ≤ 1048576) (S : List (Int × List Int)) (hS : ∀ s,s ∈ S → s.2.length < 2000000) (hn : S.length ≤ 1048576)
include hl hs hq hS hn
theorem CheckRewrite_impl : Does Tryz.prog 32 [] [pD p,pD q,intsD ws,.sl 2 (S.map stE)] (Bo (ckO ws S p q)) []:=by
 have h1:=certTo_ok hl hs S hS hn
 cases ho : asO ws S p with
 | none=>
  rw [ho] at h1
  rw [ckO_n q ho]
  unfold paD at h1
  generalize S.map stE = ds at *
  refine Bg c_Z35 mixed (go1 trivial ?_)
  exact Uc trivial (h1) (go0 trivial)
 | some x=>
  have hx:=asO_sz ho
  have hc:=samePlan_ok x (by omega) q hq
  rw [ho] at h1
  unfold paD at h1
  generalize S.map stE = ds at *
  by_cases hxq : x = q
  ·rw [ckO_t (by rw [ho,hxq])]
   have hc:=hc.1 hxq
   refine Bg c_Z35 mixed (go1 trivial ?_)
   refine Uc trivial (h1) (go1 trivial ?_)
   exact Uc trivial (hc) (go0 trivial)
  ·rw [ckO_f ho hxq]
   have hc:=hc.2 hxq
   refine Bg c_Z35 mixed (go1 trivial ?_)
   refine Uc trivial (h1) (go1 trivial ?_)
   exact Uc trivial (hc) (go0 trivial)
theorem CheckRewrite_spec : Does Tryz.prog 33 [] [pD p,pD q,intsD ws,.sl 2 (S.map stE)] (Bo (ckO ws S p q)) []:=by
 have h1:=ApplySteps_spec hl hs S hS hn
 cases ho : asO ws S p with
 | none=>
  rw [ho] at h1
  rw [ckO_n q ho]
  unfold paD at h1
  generalize S.map stE = ds at *
  refine Bg c_Z44 mixed (go1 trivial ?_)
  exact Uc trivial (h1) (go0 trivial)
 | some x=>
  have hx:=asO_sz ho
  have hc:=equalPlansS_ok x (by omega) q hq
  rw [ho] at h1
  unfold paD at h1
  generalize S.map stE = ds at *
  by_cases hxq : x = q
  ·rw [ckO_t (by rw [ho,hxq])]
   have hc:=hc.1 hxq
   refine Bg c_Z44 mixed (go1 trivial ?_)
   refine Uc trivial (h1) (go1 trivial ?_)
   exact Uc trivial (hc) (go0 trivial)
  ·rw [ckO_f ho hxq]
   have hc:=hc.2 hxq
   refine Bg c_Z44 mixed (go1 trivial ?_)
   refine Uc trivial (h1) (go1 trivial ?_)
   exact Uc trivial (hc) (go0 trivial)
end
end Go.Proofs.YtgpdmgaemhelgaaGreat
set_option maxHeartbeats 4000000
set_option maxRecDepth 100000
namespace Go.Proofs.YtgpdmgaemhelgaaGreat
open Go.ChangeShapes Go.WideShapes Go.ChangeAt Go.RowKit Go.Joins Go.Deep
theorem cells_LStep : Tryz.prog.cellsOf 95 = 2:=by kernel_rfl
section
variable {H : Type} {enc : TypeId × Value → H} {W : World} {base b0 : Nat} {held : Bool} {r : Reach} {v : Value} {d : DataW H} {p : List MemPlace}
def IsSteps (w : World) (v : Value) (l : List (Int × List Int)) : Prop:=mostSt l ∧ Fz w (allOf w) noNames (.sl 2 (l.map stE)) v
set_option maxRecDepth 100000 in
theorem trod_Step {fuel : Nat} {cs : List Value} {x : DataW H × List MemPlace} (hf : DataW.trod enc Tryz.prog W base (fun _=>true) held fuel 95 cs = some x) :
  ∃ s : Int × List Int,CellsOK W (allOf W) noNames [I s.1,intsD s.2] cs ∧ s.2.length ≤ big:=by
 obtain ⟨y0,y1,n,_,hl,h0,h1⟩:=trod_struct2 Tryz.underlying95 hf
 rw [cells_LStep] at hl
 have e1 : (Tryz.prog.cellsOf 24) = 1:=by kernel_rfl
 match cs,hl with
 | [c0,c1],_=>
  simp only [cells_int,e1,List.drop_zero,List.drop_succ_cons,List.take_succ_cons,List.take_zero] at h0 h1
  obtain ⟨k,q0⟩:=int_fz Tryz.underlying3 h0
  obtain ⟨l1,m1,q1⟩:=trod_ints h1
  exact ⟨⟨k,l1⟩,q0.append q1,m1⟩
set_option maxRecDepth 100000 in
theorem trod_Steps {fuel : Nat} {cs : List Value} {x : DataW H × List MemPlace} (h : DataW.trod enc Tryz.prog W base (fun _=>true) held fuel 60 cs = some x) :
  ∃ l : List (Int × List Int),mostSt l ∧ CellsOK W (allOf W) noNames [.sl 2 (l.map stE)] cs:=by
 obtain ⟨l,hm,hlen,q⟩:=slice_fz Tryz.underlying60 cells_LStep (by decide) stE (fun s=>s.2.length ≤ big) h (fun n' _ cs' x' h'=>by
  obtain ⟨s,hs,hm⟩:=trod_Step h'
  exact ⟨s,rfl,hs,hm⟩)
 exact ⟨l,⟨hlen,hm⟩,q⟩
set_option maxRecDepth 100000 in
theorem open_pSteps (hv : Value.okWide Tryz.prog W r b0 60 v) (h : DataW.Trod enc Tryz.prog W base (fun _=>true) held 60 v d p) (_lt : ∀ x ∈ p,x.block < W.heap.size) :
  ∃ l : List (Int × List Int),IsSteps W v l:=by
 obtain ⟨a0,len0,cap0,rfl⟩:=okWide_slice Tryz.underlying60 hv
 obtain ⟨fuel,hf⟩:=h
 obtain ⟨l,hm,q⟩:=trod_Steps hf
 exact ⟨l,hm,CellsOK.fz1 q⟩
end
theorem calls4 {f : FuncId} {d0 d1 d2 d3 : D} {v0 v1 v2 v3 : Value} {w : World} (h : Does Tryz.prog f [] [d0,d1,d2,d3] (Bo true) []) (h0 : Fz w (allOf w) noNames d0 v0) (h1 : Fz w (allOf w) noNames d1 v1) (h2 : Fz w (allOf w) noNames d2 v2) (h3 : Fz w (allOf w) noNames d3 v3) :
  Calls Tryz.prog f #[v0,v1,v2,v3] w fun e W'=>e = .returned (.bool true) ∧ Below w.heap.size w W':=by
 refine calls_of h w [v0,v1,v2,v3] rfl (fun i d x hd hx=>?_)
 rcases i with _ | _ | _ | _ | i
 ·obtain rfl : d0 = d:=by simpa using hd
  obtain rfl : v0 = x:=by simpa using hx
  exact h0
 ·obtain rfl : d1 = d:=by simpa using hd
  obtain rfl : v1 = x:=by simpa using hx
  exact h1
 ·obtain rfl : d2 = d:=by simpa using hd
  obtain rfl : v2 = x:=by simpa using hx
  exact h2
 ·obtain rfl : d3 = d:=by simpa using hd
  obtain rfl : v3 = x:=by simpa using hx
  exact h3
 ·simp at hd
end Go.Proofs.YtgpdmgaemhelgaaGreat
set_option maxHeartbeats 4000000
set_option maxRecDepth 100000
set_option linter.unusedVariables false
set_option linter.unusedSimpArgs false
namespace Go.Proofs.YtgpdmgaemhelgaaGreat
open Go.RowKit
mutual
theorem pt_fst : ∀ (p : Pl) (pre : List Int),(ptP p pre).map Prod.fst = pathsP p pre
 | .mk k t es cs ks,pre=>by rw [ptP,pathsP,List.map_cons,ptL_fst ks pre 0]
theorem ptL_fst : ∀ (l : List Pl) (pre : List Int) (i : Nat),(ptL l pre i).map Prod.fst = pathsL l pre i
 | [],_,_=>rfl
 | p :: l,pre,i=>by rw [ptL,pathsL,List.map_append,pt_fst p,ptL_fst l]
end
theorem pt_at : ∀ (p : Pl) (pre l : List Int) (a : Pl),(l,a) ∈ ptP p pre → ∃ m,l = pre ++ m ∧ paOf p m = some a:=by
 refine Pl.indA (fun p ih pre l a h=>?_)
 rw [ptP_eq] at h
 rcases List.mem_cons.1 h with h | h
 ·obtain ⟨rfl,rfl⟩:=Prod.mk.inj h
  exact ⟨[],(List.append_nil _).symm,rfl⟩
 ·obtain ⟨j,q,hq,hx⟩:=ptL_mem h
  obtain ⟨m,rfl,hm⟩:=ih q (List.mem_of_getElem? hq) _ _ _ hx
  refine ⟨((0 + j : Nat) : Int) :: m,by rw [List.append_assoc]; rfl,?_⟩
  rw [paOf]
  have hk : kidAt p ((0 + j : Nat) : Int) = some q:=by
   unfold kidAt
   rw [if_pos (by omega),Nat.zero_add,Int.toNat_natCast]
   exact hq
  rw [hk]
  exact hm
theorem pt_path {p : Pl} {l : List Int} {a : Pl} (h : (l,a) ∈ ptP p []) : paOf p l = some a:=by
 obtain ⟨m,rfl,hm⟩:=pt_at p [] l a h
 exact hm
theorem apP_lv {ws : List Int} (hw : wsOk ws) {p a : Pl} {w : Int} (h : Wf ws p 8 w) {l : List Int} (ha : paOf p l = some a) (r : Int) : (lvP ws (8 - l.length) (ruP ws r a)).isSome = (apP ws r l p).isSome:=by
 unfold apP lvP
 rw [ha,Option.bind_some]
 cases hq : ruP ws r a with
 | none=>rfl
 | some q=>
  obtain ⟨_,hpart⟩:=apP_part hw h ha hq
  rw [Option.bind_some,Option.bind_some]
  by_cases hz : wdV ws q (8 - l.length) = 0
  ·rw [if_pos hz,if_pos (hpart.1 hz)]
  ·rw [if_neg hz,if_neg (fun g=>hz (hpart.2 g))]
   rfl
theorem stepsTo_app (ws : List Int) (p : Pl) (a b : List (List Int)) : stepsTo ws p (a ++ b) = stepsTo ws p a ++ stepsTo ws p b:=List.flatMap_append
theorem stepsAt_pre (ws : List Int) (p : Pl) (l : List Int) {n m : Nat} (h : n ≤ m) : ∃ t,stepsAt ws p l m = stepsAt ws p l n ++ t:=by
 induction m with
 | zero=>
  obtain rfl : n = 0:=by omega
  exact ⟨[],(List.append_nil _).symm⟩
 | succ m ih=>
  by_cases e : n = m + 1
  ·subst e; exact ⟨[],(List.append_nil _).symm⟩
  ·obtain ⟨t,ht⟩:=ih (by omega)
   exact ⟨t ++ (if (apP ws ((m : Int) + 1) l p).isSome = true then [((m : Int) + 1,l)] else []),by rw [stepsAt,ht,List.append_assoc]⟩
theorem step_at {ws : List Int} {p : Pl} {ls : List (List Int)} {i : Nat} {l : List Int} (hi : ls[i]? = some l) {n : Nat} (hn : n < 11) (ha : (apP ws ((n : Int) + 1) l p).isSome = true) :
  (stepsTo ws p ls)[(stepsTo ws p (ls.take i)).length + (stepsAt ws p l n).length]? = some ((n : Int) + 1,l):=by
 have hl:=(List.getElem?_eq_some_iff.1 hi).1
 have h1 : stepsTo ws p ls = stepsTo ws p (ls.take i) ++ (stepsAt ws p l 11 ++ stepsTo ws p (ls.drop (i + 1))):=by
  have hd : ls.drop i = l :: ls.drop (i + 1):=by
   rw [List.drop_eq_getElem_cons hl]
   congr 1
   exact (List.getElem?_eq_some_iff.1 hi).2
  conv=>lhs; rw [← List.take_append_drop i ls,hd,stepsTo_app]
  congr 1
 obtain ⟨t,ht⟩:=stepsAt_pre ws p l (n:=n + 1) (m:=11) (by omega)
 have hs : stepsAt ws p l (n + 1) = stepsAt ws p l n ++ [((n : Int) + 1,l)]:=by rw [stepsAt,if_pos ha]
 rw [h1,List.getElem?_append_right (by omega),Nat.add_sub_cancel_left,ht,hs,List.append_assoc,List.append_assoc,List.getElem?_append_right (Nat.le_refl _),Nat.sub_self]
 rfl
theorem stepsTo_mono (ws : List Int) (p : Pl) (ls : List (List Int)) (i : Nat) : (stepsTo ws p (ls.take i)).length ≤ (stepsTo ws p ls).length:=by
 have h:=stepsTo_app ws p (ls.take i) (ls.drop i)
 rw [List.take_append_drop] at h
 rw [h,List.length_append]
 omega
theorem step_part (ws : List Int) (p : Pl) (ls : List (List Int)) (e : Nat) (h : e < (stepsTo ws p ls).length) : ∃ i l,ls[i]? = some l ∧ (stepsTo ws p (ls.take i)).length ≤ e ∧ e < (stepsTo ws p (ls.take i)).length + (stepsAt ws p l 11).length:=by
 have main : ∀ n,n ≤ ls.length → e < (stepsTo ws p (ls.take n)).length → ∃ i l,ls[i]? = some l ∧ (stepsTo ws p (ls.take i)).length ≤ e ∧ e < (stepsTo ws p (ls.take i)).length + (stepsAt ws p l 11).length:=by
  intro n
  induction n with
  | zero=>intro _ hn; rw [List.take_zero] at hn; exact absurd hn (Nat.not_lt_zero _)
  | succ n ih=>
   intro hl hn
   by_cases hlt : e < (stepsTo ws p (ls.take n)).length
   ·exact ih (by omega) hlt
   ·obtain ⟨l,hl0⟩ : ∃ l,ls[n]? = some l:=⟨_,List.getElem?_eq_getElem (by omega)⟩
    rw [stepsTo_next hl0,List.length_append] at hn
    exact ⟨n,l,hl0,by omega,hn⟩
 exact main ls.length (Nat.le_refl _) (by rw [List.take_length]; exact h)
def lowR (r : Int) : Bool:=r != 2 && r != 5 && r != 6
noncomputable def fsP (ws : List Int) (p : Pl) : Option (Int × List Int):=(stepsP ws p).find? fun s=>lowR s.1
theorem stepsTo_some {ws : List Int} {p : Pl} {ls : List (List Int)} {s : Int × List Int} (h : s ∈ stepsTo ws p ls) : ∃ x,apP ws s.1 s.2 p = some x:=by
 obtain ⟨l,_,hs⟩:=List.mem_flatMap.1 h
 have main : ∀ n,s ∈ stepsAt ws p l n → ∃ x,apP ws s.1 s.2 p = some x:=by
  intro n
  induction n with
  | zero=>intro h; cases h
  | succ n ih=>
   intro h
   rw [stepsAt,List.mem_append] at h
   rcases h with h | h
   ·exact ih h
   ·split at h
    ·rename_i hq
     obtain rfl:=List.mem_singleton.1 h
     exact Option.isSome_iff_exists.1 hq
    ·cases h
 exact main 11 hs
theorem fsP_some {ws : List Int} {p : Pl} {s : Int × List Int} (h : fsP ws p = some s) : s ∈ stepsP ws p ∧ lowR s.1 = true ∧ ∃ x,apP ws s.1 s.2 p = some x:=by
 have hm:=List.mem_of_find?_eq_some h
 exact ⟨hm,by have:=List.find?_some h; exact this,stepsTo_some hm⟩
end Go.Proofs.YtgpdmgaemhelgaaGreat
