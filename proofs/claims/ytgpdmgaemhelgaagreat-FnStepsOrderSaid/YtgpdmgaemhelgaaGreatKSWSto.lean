/-
  The law that steps are listed from the outside to the inside. No condition.
-/
import Derived.Test.YtgpdmgaemhelgaaGreatKSDcWSto
import Derived.Test.YtgpdmgaemhelgaaGreatKSDca
import Derived.Test.YtgpdmgaemhelgaaGreatJSVNmD
import Derived.Test.YtgpdmgaemhelgaaGreatJSVStD
import Derived.Test.YtgpdmgaemhelgaaGreatJSVLaw
import Derived.Test.YtgpdmgaemhelgaaGreatJSVYld
set_option maxHeartbeats 4000000
set_option maxRecDepth 100000
set_option linter.unusedVariables false
set_option linter.unusedSimpArgs false
namespace Go.Proofs.YtgpdmgaemhelgaaGreat
open Go.RowKit
def Asc2 : List (Int × List Int) → Prop
 | a :: b :: l=>(a.2 = b.2 → a.1 < b.1) ∧ Asc2 (b :: l)
 | _=>True
theorem asc2_app : ∀ {S T : List (Int × List Int)},Asc2 S → Asc2 T → (∀ a b,S.getLast? = some a → T.head? = some b → a.2 = b.2 → a.1 < b.1) → Asc2 (S ++ T)
 | [],T,_,hT,_=>hT
 | [a],[],_,_,_=>trivial
 | [a],b :: T,_,hT,h=>⟨fun e=>h a b rfl rfl e,hT⟩
 | a :: b :: S,T,hS,hT,h=>⟨hS.1,asc2_app (S:=b :: S) hS.2 hT (fun x y hx hy=>h x y (by rw [List.getLast?_cons_cons]; exact hx) hy)⟩
theorem asc2_at : ∀ {S : List (Int × List Int)} {i : Nat} {a b : Int × List Int},Asc2 S → S[i]? = some a → S[i + 1]? = some b → a.2 = b.2 → a.1 < b.1
 | [],i,a,b,_,h,_,_=>by simp at h
 | [x],0,a,b,_,_,h,_=>by simp at h
 | [x],i + 1,a,b,_,h,_,_=>by simp at h
 | x :: y :: S,0,a,b,hS,h1,h2,e=>by
  obtain rfl : x = a:=by simpa using h1
  obtain rfl : y = b:=by simpa using h2
  exact hS.1 e
 | x :: y :: S,i + 1,a,b,hS,h1,h2,e=>asc2_at (S:=y :: S) (i:=i) hS.2 (by simpa using h1) (by simpa using h2) e
theorem asc2_steps (ws : List Int) (p : Pl) (l : List Int) : ∀ n,Asc2 (stepsAt ws p l n)
 | 0=>trivial
 | n + 1=>by
  rw [stepsAt]
  refine asc2_app (asc2_steps ws p l n) ?_ (fun a b ha hb _=>?_)
  ·split
   ·exact trivial
   ·exact trivial
  ·have h1:=(stepsAt_mem (List.mem_of_getLast? ha)).2.2
   split at hb
   ·obtain rfl : ((n : Int) + 1,l) = b:=by simpa using hb
    show a.1 < (n : Int) + 1
    omega
   ·simp at hb
theorem pathsP_nodup : ∀ (p : Pl) (pre : List Int),(pathsP p pre).Nodup ∧ ∀ l,l ∈ pathsP p pre → ∃ m,l = pre ++ m:=by
 refine Pl.indA (fun p ih pre=>?_)
 have main : ∀ (ks : List Pl) (i : Nat),(∀ x,x ∈ ks → x ∈ p.ks) → (pathsL ks pre i).Nodup ∧ ∀ l,l ∈ pathsL ks pre i → ∃ (j : Nat) (m : List Int),i ≤ j ∧ l = pre ++ (j : Int) :: m:=by
  intro ks
  induction ks with
  | nil=>intro i _; exact ⟨List.nodup_nil,fun l hl=>by cases hl⟩
  | cons k ks ihk=>
   intro i hk
   obtain ⟨a1,a2⟩:=ih k (hk k (List.mem_cons_self ..)) (pre ++ [(i : Int)])
   obtain ⟨b1,b2⟩:=ihk (i + 1) (fun x hx=>hk x (List.mem_cons_of_mem _ hx))
   rw [pathsL]
   refine ⟨List.nodup_append.2 ⟨a1,b1,fun x hx y hy e=>?_⟩,fun l hl=>?_⟩
   ·subst e
    obtain ⟨m,hm⟩:=a2 x hx
    obtain ⟨j,m',hj,hm'⟩:=b2 x hy
    rw [hm,List.append_assoc] at hm'
    have:=List.append_cancel_left hm'
    have h3 : (i : Int) = (j : Int):=(List.cons.inj this).1
    omega
   ·rcases List.mem_append.1 hl with hl | hl
    ·obtain ⟨m,hm⟩:=a2 l hl
     exact ⟨i,m,Nat.le_refl _,by rw [hm,List.append_assoc]; rfl⟩
    ·obtain ⟨j,m,hj,hm⟩:=b2 l hl
     exact ⟨j,m,by omega,hm⟩
 obtain ⟨h1,h2⟩:=main p.ks 0 (fun x hx=>hx)
 rw [pathsP_eq]
 refine ⟨List.nodup_cons.2 ⟨fun hm=>?_,h1⟩,fun l hl=>?_⟩
 ·obtain ⟨j,m,_,e⟩:=h2 pre hm
  have:=congrArg List.length e
  rw [List.length_append,List.length_cons] at this
  omega
 ·rcases List.mem_cons.1 hl with rfl | hl
  ·exact ⟨[],(List.append_nil _).symm⟩
  ·obtain ⟨j,m,_,e⟩:=h2 l hl
   exact ⟨_,e⟩
theorem asc2_to (ws : List Int) (p : Pl) : ∀ ls : List (List Int),ls.Nodup → Asc2 (stepsTo ws p ls)
 | [],_=>trivial
 | l :: ls,h=>by
  obtain ⟨h1,h2⟩:=List.nodup_cons.1 h
  show Asc2 (stepsAt ws p l 11 ++ stepsTo ws p ls)
  refine asc2_app (asc2_steps ws p l 11) (asc2_to ws p ls h2) (fun a b ha hb e=>?_)
  have e1:=(stepsAt_mem (List.mem_of_getLast? ha)).1
  obtain ⟨l',hl',hb'⟩:=List.mem_flatMap.1 (List.mem_of_head? hb)
  have e2:=(stepsAt_mem hb').1
  exact absurd (by rw [← e1,e,e2]; exact hl') h1
theorem stpO_asc (ws : List Int) (p : Pl) : Asc2 (stpO ws p):=by
 unfold stpO
 split
 ·exact trivial
 ·exact asc2_to ws p _ (pathsP_nodup p []).1
theorem does_FnStepsOrder (cs : List Nat) (hc : ∀ b,b ∈ cs → b < 256) : Does Tryz.prog 5 [] [bytesD cs] (Bo true) []:=by
 by_cases hlen : cs.length ≤ 1048576
 ·obtain ⟨p,ws,hdr,hz,hwl⟩:=DrawStepsFor_ok cs hc
  have s1:=StepsFor_impl p (by omega) ws (by omega)
  have s2:=StepsFor_ok p (by omega) ws (by omega)
  have hsl:=stpO_len (ws:=ws) (p:=p) (by omega)
  have hS8 : ∀ s,s ∈ stpO ws p → s.2.length < 2000000:=fun s hs=>by have:=(stpO_mem hs).1; omega
  have e1:=equalSteps_same (stpO ws p) hsl hS8
  have hasc:=stpO_asc ws p
  unfold intsD at s1 s2 hdr
  generalize stpO ws p = S at *
  have hdl : (S.map stE).length = S.length:=List.length_map ..
  have hdat : ∀ (j : Nat) (s : Int × List Int),S[j]? = some s → (S.map stE)[j]? = some (.agg [I s.1,.sl 1 (s.2.map I)]):=fun j s hs=>by rw [List.getElem?_map,hs]; rfl
  generalize S.map stE = ds at *
  refine Bg c_Z44 mixed (go1 @bytesD.eq_1 ?_)
  refine Uc @bytesD.eq_1 (hdr) (go1 @bytesD.eq_1 ?_)
  refine Uc @bytesD.eq_1 (s1) (go1 @bytesD.eq_1 ?_)
  refine Uc @bytesD.eq_1 (s2) (go1 @bytesD.eq_1 ?_)
  refine Uc @bytesD.eq_1 (e1) (go1 @bytesD.eq_1 ?_)
  refine dw_for (c:=1) (l:=fun i=>[(5,.sl 2 ds),(6,I ((i : Int) + 1)),(1000000,.obj [I p.k,I p.t,.sl 5 (p.es.map eD),.sl 1 (p.cs.map I),.sl 5 (p.ks.map pD)])]) S.length (fun _=>True) 0 trivial (Wk.list [2000003] rfl rfl ?_) (fun i hi _=>?_) (Nat.zero_le _)
  ·repeat' (first|(conv in hold _=>simp (disch:=omega) only [go_sem,bytesD,List.length_map])|exact trivial|exact Sub.refl _|omega)
   exact rfl
  ·by_cases hlt : i + 1 < S.length
   ·obtain ⟨a,ha⟩ : ∃ a,S[i]? = some a:=⟨_,List.getElem?_eq_getElem (by omega)⟩
    obtain ⟨b,hb⟩ : ∃ b,S[i + 1]? = some b:=⟨_,List.getElem?_eq_getElem hlt⟩
    have hda:=hdat i a ha
    have hdb:=hdat (i + 1) b hb
    have hci:=eqIntsC_ok b.2 a.2 (hS8 _ (List.mem_of_getElem? hb)) (hS8 _ (List.mem_of_getElem? ha))
    have hti : ((i : Int) + 1).toNat = i + 1:=by omega
    have htj : ((i : Int) + 1 - 1).toNat = i:=by omega
    have hlb : (i : Int) + 1 < (S.length : Int):=by omega
    have hdlt : decide ((i : Int) + 1 < (S.length : Int)) = true:=decide_eq_true hlb
    by_cases h2 : b.2 = a.2
    ·have h3:=hci.1 h2
     have h4:=asc2_at hasc ha hb h2.symm
     have h5 : decide (b.1 ≤ a.1) = false:=decide_eq_false (by omega)
     unfold intsD at h3
     refine go1 (cj7 @bytesD.eq_1 @hda @hdb @hdl @hti @htj @hdlt) ?_
     refine Uc (cj7 @bytesD.eq_1 @hda @hdb @hdl @hti @htj @h5) (h3) (go1 (cj7 @bytesD.eq_1 @hda @hdb @hdl @hti @htj @h5) ?_)
     refine ⟨by omega,trivial,Wk.list [1000000] rfl rfl ?_⟩
     repeat' (first|(conv in hold _=>simp (disch:=omega) only [go_sem,bytesD,List.length_map])|exact trivial|exact Sub.refl _|omega)
    ·have h3:=hci.2 h2
     unfold intsD at h3
     refine go1 (cj7 @bytesD.eq_1 @hda @hdb @hdl @hti @htj @hdlt) ?_
     refine Uc (cj6 @bytesD.eq_1 @hda @hdb @hdl @hti @htj) (h3) (go1 (cj6 @bytesD.eq_1 @hda @hdb @hdl @hti @htj) ?_)
     refine ⟨by omega,trivial,Wk.list [1000000] rfl rfl ?_⟩
     repeat' (first|(conv in hold _=>simp (disch:=omega) only [go_sem,bytesD,List.length_map])|exact trivial|exact Sub.refl _|omega)
   ·have hdlt : decide ((i : Int) + 1 < (S.length : Int)) = false:=decide_eq_false (by omega)
    exact go0 (cj3 @bytesD.eq_1 @hdl @hdlt)
 ·exact Bg c_Z44 mixed (go0 @bytesD.eq_1)
theorem walk_FnStepsOrder (a : Option Addr) (len cap : Nat) (zs : List Int) (w : World) (h : IsRow .u8 w a len cap zs) :
  Calls Tryz.prog 5 #[.slice a len cap] w fun e W'=>e = .returned (.bool true) ∧ Below w.heap.size w W':=walk_of does_FnStepsOrder a len cap zs w h
end Go.Proofs.YtgpdmgaemhelgaaGreat
