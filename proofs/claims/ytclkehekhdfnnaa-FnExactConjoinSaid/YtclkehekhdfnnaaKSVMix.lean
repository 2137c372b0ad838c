/-
  Rows of one's own whose elements are changed one after the other, for elements of any kind. No condition.
-/
import Derived.Test.YtclkehekhdfnnaaKSVGen
import Derived.Test.YtclkehekhdfnnaaJSVWLaws
set_option maxHeartbeats 4000000
set_option maxRecDepth 100000
set_option linter.unusedVariables false
set_option linter.unusedSimpArgs false
namespace Go.Proofs.Ytclkehekhdfnnaa
open Go.RowKit
def nE {α : Type} (l : List α) : Nat:=if l = [] then 0 else 1
theorem nE_le {α : Type} (l : List α) : nE l ≤ 1 ∧ nE l ≤ l.length:=by
 unfold nE
 cases l with
 | nil=>simp
 | cons a l=>simp
theorem kD_two (κ s : Nat) (es : List D) : kD κ s es = .sl s [] ∨ kD κ s es = .kow κ s es.length:=by
 unfold kD
 split
 ·exact .inl rfl
 ·exact .inr rfl
def likeL : List It → List It → Prop
 | [],[]=>True
 | a :: l,b :: m=>(a.s = b.s ∧ a.es = b.es ∧ (a.es ≠ [] → a.κ = b.κ)) ∧ likeL l m
 | _,_=>False
theorem OwnL.like {w : World} {m : Names} : ∀ {l l' : List It} {B : Blocks},OwnL l w m B → likeL l l' → OwnL l' w m B
 | [],[],_,h,_=>h
 | a :: l,b :: l',_,⟨B1,B2,h1,h2,h3,h4⟩,⟨⟨e1,e2,e3⟩,e4⟩=>⟨B1,B2,by
  obtain ⟨κ,s,es⟩:=a
  obtain ⟨κ',s',es'⟩:=b
  obtain rfl : s = s':=e1
  obtain rfl : es = es':=e2
  by_cases h0 : es = []
  ·rcases h1 with h1 | ⟨h1,_⟩
   ·exact .inl h1
   ·exact absurd h0 h1
  ·obtain rfl : κ = κ':=e3 h0
   exact h1,h2.like e4,h3,h4⟩
 | [],_ :: _,_,_,h=>h.elim
 | _ :: _,[],_,_,h=>h.elim
theorem RCalls.top {P : Program} {f : FuncId} {pre post : List It} {ds : List D} {t t' : Nat} {r : D} (h : RCalls P f pre ds post t r) (ht : t ≤ t') : RCalls P f pre ds post t' r:=by
 intro w F m B xs h1 h2 h3 h4 h5 h6
 refine (h w F m B xs h1 h2 h3 h4 h5 h6).mono ?_
 rintro e w' ⟨x,F',m',B',q1,q2,q3,q4,q5,q6,q7,q8,q9⟩
 exact ⟨x,F',m',B',q1,q2,q3,q4,q5,q6,fun κ hκ=>q7 κ (by omega),q8,q9⟩
theorem ownL_nil {w : World} {m : Names} : ∀ {l : List It},(∀ it,it ∈ l → it.es = []) → OwnL l w m noBlocks
 | [],_=>fun _ hb=>hb
 | it :: l,hl=>⟨noBlocks,noBlocks,.inl ⟨hl it (List.mem_cons_self ..),fun _ hb=>hb⟩,ownL_nil (fun x hx=>hl x (List.mem_cons_of_mem _ hx)),fun _ hb=>hb.elim,fun b=>⟨fun h=>h.elim,fun h=>h.elim id id⟩⟩
theorem rcalls_nilP {P : Program} {f : FuncId} {pre post : List It} {ds : List D} {r : D} (h : Does P f [] ds r []) (hds : D.purL ds = true) (hr : r.pur = true) (hp : ∀ it,it ∈ post → it.es = []) : RCalls P f pre ds post pre.length r:=by
 intro w F m B xs hwf hO hBF hmn hxl hfz
 refine (h w F noNames xs hxl (Nat.zero_le _) hwf (fun i d x hd hx=>(hfz i d x hd hx).pure (D.purL_iff.1 hds d (List.mem_of_getElem? hd)) noNames) (fun i d hd=>by simp at hd) (fun _ _=>rfl) (fun i j b hi=>by simp at hi)).mono ?_
 rintro e w' ⟨x,F',m',rfl,c,wf',_,_,hx,_⟩
 have hT : ∀ b,¬ (∃ i,i < ([] : List D).length ∧ noNames (nb + i) = some (some b)):=fun b ⟨i,hi,_⟩=>by simp at hi
 exact ⟨x,F',m,noBlocks,rfl,c.mono (fun b hb=>(hT b hb).elim),wf',fun _ hb=>hb.elim,fun _ _ hb=>hb.elim,fun κ hκ=>rfl,fun κ hκ=>hmn κ hκ,hx.pure hr m,ownL_nil hp⟩
theorem kD_lenE {es es' : List D} (h : es'.length = es.length) (κ s : Nat) : kD κ s es = kD κ s es':=by
 unfold kD
 by_cases h0 : es = []
 ·rw [if_pos h0,if_pos (List.length_eq_zero_iff.1 (by rw [h,h0]; rfl))]
 ·rw [if_neg h0,if_neg (fun e=>h0 (List.length_eq_zero_iff.1 (by rw [← h,e]; rfl))),h]
def pat (cs : List D) : List Bool:=cs.map isT
section
variable {α : Type} (X : El α)
def El.like (old new : List α) : Prop:=new.length = old.length ∧ ∀ (i : Nat) (a a' : α),old[i]? = some a → new[i]? = some a' → pat (X.fc a') = pat (X.fc a)
def El.rest (old new : List α) (i : Nat) : List It:=itK 0 (X.all (new.take i)) ++ itK (cntS (X.all (old.take (i + 1)))) (X.all (old.drop (i + 1)))
end
end Go.Proofs.Ytclkehekhdfnnaa
