/-
  Rows of numbers of one's own: marked, looked at. No condition.
-/
import Derived.Test.YtedmegmhjmabcaaKSDca
import Derived.Test.YtedmegmhjmabcaaKSVLend
import Derived.Test.YtedmegmhjmabcaaJSVCall
import Derived.Test.YtedmegmhjmabcaaJSVSzW
import Derived.Test.YtedmegmhjmabcaaKSVSzV
import Derived.Test.YtedmegmhjmabcaaJSVLib
import Derived.Test.YtedmegmhjmabcaaKSDcb
import Derived.Test.YtedmegmhjmabcaaJSVTbD
import Derived.Test.YtedmegmhjmabcaaKSVTbC
import Derived.Test.YtedmegmhjmabcaaSVGo
set_option maxHeartbeats 4000000
set_option maxRecDepth 100000
set_option linter.unusedVariables false
set_option linter.unusedSimpArgs false
namespace Go.Proofs.Ytedmegmhjmabcaa
open Go.RowKit
def mixL (new : Nat → D) (old : List D) (i : Nat) : List D:=(List.range i).map new ++ old.drop i
theorem mix_len (new : Nat → D) (old : List D) {i : Nat} (h : i ≤ old.length) : (mixL new old i).length = old.length:=by
 unfold mixL
 rw [List.length_append,List.length_map,List.length_range,List.length_drop]
 omega
theorem mix_get (new : Nat → D) {old : List D} {i : Nat} {x : D} (h : old[i]? = some x) : (mixL new old i)[i]? = some x:=by
 unfold mixL
 rw [List.getElem?_append_right (by rw [List.length_map,List.length_range]; omega),List.length_map,List.length_range,Nat.sub_self,List.getElem?_drop,Nat.add_zero]
 exact h
theorem mix_set (new : Nat → D) {old : List D} {i : Nat} (h : i < old.length) : (mixL new old i).set i (new i) = mixL new old (i + 1):=by
 unfold mixL
 rw [List.set_append_right _ _ (by rw [List.length_map,List.length_range]; exact Nat.le_refl _),List.length_map,List.length_range,Nat.sub_self,List.range_succ,List.map_append,List.append_assoc]
 congr 1
 rw [List.drop_eq_getElem_cons h]
 rfl
theorem mix_end (new : Nat → D) (old : List D) : mixL new old old.length = (List.range old.length).map new:=by
 unfold mixL
 rw [List.drop_length,List.append_nil]
theorem mix_ren (new : Nat → D) (old : List D) (hn : ∀ i,(new i).pur = true) (ho : D.purL old = true) (L : List Nat) (i : Nat) : D.renL L (mixL new old i) = mixL new old i:=by
 refine ren_pure.renL_pure L _ (D.purL_iff.2 fun d hd=>?_)
 unfold mixL at hd
 rcases List.mem_append.1 hd with hd | hd
 ·obtain ⟨j,_,rfl⟩:=List.mem_map.1 hd
  exact hn j
 ·exact D.purL_iff.1 ho d (List.mem_of_mem_drop hd)
theorem news_ren (new : Nat → D) (hn : ∀ i,(new i).pur = true) (L : List Nat) (n : Nat) : D.renL L ((List.range n).map new) = (List.range n).map new:=by
 refine ren_pure.renL_pure L _ (D.purL_iff.2 fun d hd=>?_)
 obtain ⟨j,_,rfl⟩:=List.mem_map.1 hd
 exact hn j
end Go.Proofs.Ytedmegmhjmabcaa
set_option maxHeartbeats 4000000
set_option maxRecDepth 100000
namespace Go.Proofs.Ytedmegmhjmabcaa
open Go.RowKit
theorem compareRows_spec (a b : List V) (ha : a.length < 2000000) (hb : b.length < 2000000) : Does Try.prog 100 [] [rowD a,rowD b] (I (cmpR a b)) []:=by
 refine Bg c_Z13 mixed (go1 trivial ?_)
 refine dw_for (c:=0) (l:=fun i=>[(0,rowD a),(1,rowD b),(5,I i)]) (min a.length b.length) (fun i=>∀ (j : Nat) (x y : V),j < i → a[j]? = some x → b[j]? = some y → cmpV x y = 0) 0 (fun j x y hj=>by omega) (Wk.list [] rfl rfl ?_) (fun i hi hJ=>?_) (Nat.zero_le _)
 ·repeat' (first|(conv in hold _=>simp (disch:=omega) only [go_sem])|exact trivial|exact Sub.refl _|omega)
  exact rfl
 ·by_cases hil : i < min a.length b.length
  ·obtain ⟨x,hx⟩ : ∃ x,a[i]? = some x:=⟨_,List.getElem?_eq_getElem (by omega)⟩
   obtain ⟨y,hy⟩ : ∃ y,b[i]? = some y:=⟨_,List.getElem?_eq_getElem (by omega)⟩
   have hc:=compareValues_ok x y
   by_cases h0 : cmpV x y = 0
   ·refine go1 (cj2 @hx @hy) ?_
    refine Uc trivial (hc) (go1 trivial ?_)
    refine ⟨hil,fun j x' y' hj hx' hy'=>?_,Wk.list [] rfl rfl ?_⟩
    ·by_cases hji : j = i
     ·subst hji
      rw [hx] at hx'
      rw [hy] at hy'
      cases hx'
      cases hy'
      exact h0
     ·exact hJ j x' y' (by omega) hx' hy'
    ·repeat' (first|(conv in hold _=>simp (disch:=omega) only [go_sem])|exact trivial|exact Sub.refl _|omega)
   ·rw [cmpR_hit a b i x y hJ hx hy h0]
    refine go1 (cj2 @hx @hy) ?_
    exact Uc trivial (hc) (go0 trivial)
  ·rw [cmpR_end a b (fun j x y hx hy=>hJ j x y (by have:=(List.getElem?_eq_some_iff.1 hx).1; have:=(List.getElem?_eq_some_iff.1 hy).1; omega) hx hy)]
   exact go0 trivial
theorem compareRows_impl (a b : List V) (hab : a.length = b.length) (hl : a.length < 2000000) (ha : ∀ v,v ∈ a → v.ok) (hb : ∀ v,v ∈ b → v.ok) : Does Try.prog 90 [] [rowD a,rowD b] (I (cmpR a b)) []:=by
 refine Bg c_Z8 mixed (go1 trivial ?_)
 refine dw_for (c:=0) (l:=fun i=>[(0,rowD a),(1,rowD b),(8,I a.length),(9,I i)]) a.length (fun i=>∀ (j : Nat) (x y : V),j < i → a[j]? = some x → b[j]? = some y → cmpV x y = 0) 0 (fun j x y hj=>by omega) (Wk.list [] rfl rfl ?_) (fun i hi hJ=>?_) (Nat.zero_le _)
 ·repeat' (first|(conv in hold _=>simp (disch:=omega) only [go_sem])|exact trivial|exact Sub.refl _|omega)
  exact rfl
 ·by_cases hil : i < a.length
  ·obtain ⟨x,hx⟩ : ∃ x,a[i]? = some x:=⟨_,List.getElem?_eq_getElem (by omega)⟩
   obtain ⟨y,hy⟩ : ∃ y,b[i]? = some y:=⟨_,List.getElem?_eq_getElem (by omega)⟩
   have hc:=Value_compare_ok x y (ha x (List.mem_of_getElem? hx)) (hb y (List.mem_of_getElem? hy))
   by_cases h0 : cmpV x y = 0
   ·refine go1 (cj2 @hx @hy) ?_
    refine Uc trivial (hc) (go1 trivial ?_)
    refine ⟨hil,fun j x' y' hj hx' hy'=>?_,Wk.list [] rfl rfl ?_⟩
    ·by_cases hji : j = i
     ·subst hji
      rw [hx] at hx'
      rw [hy] at hy'
      cases hx'
      cases hy'
      exact h0
     ·exact hJ j x' y' (by omega) hx' hy'
    ·repeat' (first|(conv in hold _=>simp (disch:=omega) only [go_sem])|exact trivial|exact Sub.refl _|omega)
   ·rw [cmpR_hit a b i x y hJ hx hy h0]
    refine go1 (cj2 @hx @hy) ?_
    exact Uc trivial (hc) (go0 trivial)
  ·rw [cmpR_end a b (fun j x y hx hy=>hJ j x y (by have:=(List.getElem?_eq_some_iff.1 hx).1; omega) hx hy),show (a.length : Int) - b.length = 0 by omega]
   exact go0 trivial
theorem cmpV_anti {a b : V} (ha : a.ok) (hb : b.ok) : cmpV b a = - cmpV a b:=by
 have h1:=ha.nul
 have h2:=hb.nul
 unfold cmpV
 cases hab : a.b <;> cases hbb : b.b <;> simp [hab,hbb] at h1 h2 ⊢
 all_goals (repeat' split) <;> omega
theorem cmpR_anti : ∀ (a b : List V),a.length = b.length → (∀ v,v ∈ a → v.ok) → (∀ v,v ∈ b → v.ok) → cmpR b a = - cmpR a b
 | [],[],_,_,_=>by decide
 | [],_ :: _,h,_,_=>by simp at h
 | _ :: _,[],h,_,_=>by simp at h
 | x :: a,y :: b,h,ha,hb=>by
  have hv:=cmpV_anti (ha x (List.mem_cons_self ..)) (hb y (List.mem_cons_self ..))
  have hr:=cmpR_anti a b (by simpa using h) (fun v hv=>ha v (List.mem_cons_of_mem _ hv)) (fun v hv=>hb v (List.mem_cons_of_mem _ hv))
  rw [cmpR,cmpR,hv]
  by_cases h0 : cmpV x y = 0
  ·rw [if_pos (by omega),if_pos h0,hr]
  ·rw [if_neg (by omega),if_neg h0]
end Go.Proofs.Ytedmegmhjmabcaa
