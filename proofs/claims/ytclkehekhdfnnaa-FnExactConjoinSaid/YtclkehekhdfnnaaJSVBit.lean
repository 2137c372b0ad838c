/-
  What is left; a row that is filled. No condition.
-/
import Derived.Test.YtclkehekhdfnnaaKSVSem
set_option maxHeartbeats 4000000
set_option maxRecDepth 100000
namespace Go.Proofs.Ytclkehekhdfnnaa
open Go.RowKit
def szV (m : Nat) (left : Int) : Int:=if (m : Int) ≤ left then left - m else -1
theorem szV_t {m : Nat} {left : Int} (h : (m : Int) ≤ left) : szV m left = left - m:=if_pos h
theorem szV_f {m : Nat} {left : Int} (h : ¬ (m : Int) ≤ left) : szV m left = -1:=if_neg h
def fil {α : Type} (f : α → D) (z : D) (l : List α) (i : Nat) : List D:=(l.take i).map f ++ List.replicate (l.length - i) z
theorem fil_len {α : Type} (f : α → D) (z : D) (l : List α) {i : Nat} (h : i ≤ l.length) : (fil f z l i).length = l.length:=by
 unfold fil
 rw [List.length_append,List.length_map,List.length_take,List.length_replicate]
 omega
theorem fil_zero {α : Type} (f : α → D) (z : D) (l : List α) : fil f z l 0 = List.replicate l.length z:=by
 unfold fil
 rw [List.take_zero,List.map_nil,List.nil_append,Nat.sub_zero]
theorem fil_end {α : Type} (f : α → D) (z : D) (l : List α) : fil f z l l.length = l.map f:=by
 unfold fil
 rw [List.take_length,Nat.sub_self,List.replicate_zero,List.append_nil]
theorem fil_set {α : Type} (f : α → D) (z : D) {l : List α} {i : Nat} {x : α} (h : l[i]? = some x) : (fil f z l i).set i (f x) = fil f z l (i + 1):=by
 have hlt:=(List.getElem?_eq_some_iff.1 h).1
 unfold fil
 have hl : ((l.take i).map f).length = i:=by rw [List.length_map,List.length_take]; omega
 rw [List.set_append_right _ _ (by omega),hl,Nat.sub_self,show l.length - i = (l.length - (i + 1)) + 1 by omega,List.replicate_succ,List.set_cons_zero,take_next h,List.map_append,List.map_cons,List.map_nil,List.append_assoc]
 rfl
theorem fil_take {α : Type} (f : α → D) (z : D) (l : List α) {i : Nat} (h : i ≤ l.length) : (fil f z l i).take l.length = fil f z l i:=List.take_of_length_le (by rw [fil_len f z l h]; exact Nat.le_refl _)
theorem fil_get {α : Type} (f : α → D) (z : D) {l : List α} {i : Nat} (h : i < l.length) : (fil f z l i)[i]? = some z:=by
 unfold fil
 have hl : ((l.take i).map f).length = i:=by rw [List.length_map,List.length_take]; omega
 rw [List.getElem?_append_right (by omega),hl,Nat.sub_self,List.getElem?_replicate,if_pos (by omega)]
theorem fil_ren {α : Type} (f : α → D) (z : D) (hf : ∀ x,(f x).pur = true) (hz : z.pur = true) (l : List α) (i : Nat) (L : List Nat) : D.renL L (fil f z l i) = fil f z l i:=by
 refine ren_pure.renL_pure L _ (D.purL_iff.2 fun d hd=>?_)
 rcases List.mem_append.1 hd with hd | hd
 ·obtain ⟨x,_,rfl⟩:=List.mem_map.1 hd
  exact hf x
 ·rw [(List.mem_replicate.1 hd).2]
  exact hz
end Go.Proofs.Ytclkehekhdfnnaa
set_option maxHeartbeats 4000000
set_option maxRecDepth 100000
set_option linter.unusedVariables false
set_option linter.unusedSimpArgs false
namespace Go.Proofs.Ytclkehekhdfnnaa
open Go.RowKit
def bor (a b : Int) : Int:=intBit .or .i64 a b
def tb (a : Int) (i : Nat) : Bool:=a.toNat.testBit i
def sub (a b : Int) : Prop:=∀ i,tb a i = true → tb b i = true
noncomputable instance subDec (a b : Int) : Decidable (sub a b):=Classical.propDecidable _
def top (w : Int) : Int:=2 ^ w.toNat - 1
def sOk (w s : Int) : Prop:=0 ≤ s ∧ s ≤ top w
end Go.Proofs.Ytclkehekhdfnnaa
