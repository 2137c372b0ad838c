/-
  Keys of trees in cells, numbered in the order of the cells; rows made and rows changed, for elements of any kind. No condition.
-/
import Derived.Test.YtclkehekhdfnnaaKSVToE
import Derived.Test.YtclkehekhdfnnaaKSVNest
set_option maxHeartbeats 4000000
set_option maxRecDepth 100000
set_option linter.unusedVariables false
set_option linter.unusedSimpArgs false
namespace Go.Proofs.Ytclkehekhdfnnaa
open Go.RowKit
def isT : D → Bool
 | .sl _ (_ :: _)=>true
 | _=>false
def cntS (cs : List D) : Nat:=(cs.filter isT).length
def nxK (κ : Nat) (d : D) : Nat:=if isT d then κ + 1 else κ
def kcs : Nat → List D → List D
 | _,[]=>[]
 | κ,d :: l=>kC κ d :: kcs (nxK κ d) l
def itK : Nat → List D → List It
 | _,[]=>[]
 | κ,d :: l=>itC κ d ++ itK (nxK κ d) l
def keyOf (cs : List D) (j : Nat) : Nat:=cntS (cs.take j)
theorem cntS_cons (d : D) (l : List D) : cntS (d :: l) = (if isT d then 1 else 0) + cntS l:=by
 unfold cntS
 rw [List.filter_cons]
 split
 ·rw [List.length_cons]; omega
 ·omega
theorem nxK_eq (κ : Nat) (d : D) : nxK κ d = κ + if isT d then 1 else 0:=by unfold nxK; split <;> omega
theorem keyOf_cons (d : D) (l : List D) (j : Nat) : keyOf (d :: l) (j + 1) = (if isT d then 1 else 0) + keyOf l j:=by unfold keyOf; rw [List.take_succ_cons,cntS_cons]
theorem itsC_shift (key : Nat → Nat) : ∀ (l : List D) (j k : Nat) (key' : Nat → Nat),(∀ i,i < l.length → key (j + i) = key' (k + i)) → itsC key j l = itsC key' k l
 | [],_,_,_,_=>rfl
 | d :: l,j,k,key',h=>by
  rw [itsC,itsC,itsC_shift key l (j + 1) (k + 1) key' (fun i hi=>by
   have:=h (i + 1) (by rw [List.length_cons]; omega)
   rw [show j + 1 + i = j + (i + 1) by omega,show k + 1 + i = k + (i + 1) by omega]
   exact this),show key j = key' k from h 0 (by rw [List.length_cons]; omega)]
theorem itsC_keyOf : ∀ (cs : List D) (κ : Nat),itsC (fun j=>κ + keyOf cs j) 0 cs = itK κ cs
 | [],_=>rfl
 | d :: l,κ=>by
  rw [itsC,itK,← itsC_keyOf l (nxK κ d)]
  congr 1
  refine itsC_shift _ l 1 0 _ (fun i _=>?_)
  show κ + keyOf (d :: l) (1 + i) = nxK κ d + keyOf l (0 + i)
  rw [Nat.add_comm 1 i,keyOf_cons,nxK_eq,Nat.zero_add]
  omega
structure El (α : Type) where
 f : α → D
 fc : α → List D
 mkd : List D → D
 s : Nat
 f_eq : ∀ a,f a = mkd (fc a)
 cells : ∀ κ a,(mkd (kcs κ (fc a))).cells = kcs κ (fc a)
 cells0 : ∀ a,(f a).cells = fc a
 len : ∀ a,(fc a).length = s
 tre : ∀ a d,d ∈ fc a → treC d = true
section
variable {α : Type} (X : El α)
def El.all (l : List α) : List D:=l.flatMap X.fc
def El.row : Nat → List α → List D
 | _,[]=>[]
 | κ,a :: l=>X.mkd (kcs κ (X.fc a)) :: El.row (κ + cntS (X.fc a)) l
theorem El.flat : ∀ l : List α,D.flat (l.map X.f) = X.all l
 | []=>rfl
 | a :: l=>by
  have ih:=El.flat l
  unfold D.flat El.all at ih ⊢
  rw [List.map_cons,List.flatMap_cons,List.flatMap_cons,ih,X.cells0]
theorem El.its (l : List α) : itsC (keyOf (D.flat (l.map X.f))) 0 (D.flat (l.map X.f)) = itK 0 (X.all l):=by
 rw [← El.flat,← itsC_keyOf]
 exact itsC_shift _ _ 0 0 _ (fun i _=>by show keyOf _ (0 + i) = 0 + keyOf _ (0 + i); rw [Nat.zero_add (keyOf _ _)])
def El.fm (l : List α) : Fm where
 top i:=if i ≤ l.length then cntS (X.all (l.take i)) else cntS (X.all l) + 1
 its i:=if i ≤ l.length then itK 0 (X.all (l.take i)) else [⟨cntS (X.all l),X.s,l.map X.f⟩]
end
end Go.Proofs.Ytclkehekhdfnnaa
