/-
  Keys of trees in cells, numbered in the order of the cells; rows made and rows changed, for elements of any kind. No condition.
-/
import Derived.Test.YtedmegmhjmabcaaKSVToE
import Derived.Test.YtedmegmhjmabcaaKSVNest
set_option maxHeartbeats 4000000
set_option maxRecDepth 100000
set_option linter.unusedVariables false
set_option linter.unusedSimpArgs false
namespace Go.Proofs.Ytedmegmhjmabcaa
open Go.RowKit
def isT : D → Bool
 | .sl _ (_ :: _)=>true
 | _=>false
def cntS (cs : List D) : Nat:=(cs.filter isT).length
def nxK (κ : Nat) (d : D) : Nat:=if isT d then κ + 1 else κ
def kcs : Nat → List D → List D
 | _,[]=>[]
 | κ,d :: l=>kC κ d :: kcs (nxK κ d) l
def itK : Nat → List D → List It
 | _,[]=>[]
 | κ,d :: l=>itC κ d ++ itK (nxK κ d) l
def keyOf (cs : List D) (j : Nat) : Nat:=cntS (cs.take j)
theorem cntS_nil : cntS [] = 0:=rfl
theorem cntS_cons (d : D) (l : List D) : cntS (d :: l) = (if isT d then 1 else 0) + cntS l:=by
 unfold cntS
 rw [List.filter_cons]
 split
 ·rw [List.length_cons]; omega
 ·omega
theorem cntS_append (a b : List D) : cntS (a ++ b) = cntS a + cntS b:=by unfold cntS; rw [List.filter_append,List.length_append]
theorem nxK_eq (κ : Nat) (d : D) : nxK κ d = κ + if isT d then 1 else 0:=by unfold nxK; split <;> omega
theorem kcs_len : ∀ (l : List D) (κ : Nat),(kcs κ l).length = l.length
 | [],_=>rfl
 | d :: l,κ=>by rw [kcs,List.length_cons,kcs_len l,List.length_cons]
theorem kcs_append : ∀ (a b : List D) (κ : Nat),kcs κ (a ++ b) = kcs κ a ++ kcs (κ + cntS a) b
 | [],b,κ=>by rw [List.nil_append,kcs,cntS_nil]; rfl
 | d :: a,b,κ=>by
  rw [List.cons_append,kcs,kcs,kcs_append a b,List.cons_append,cntS_cons,nxK_eq]
  rw [show κ + (if isT d then 1 else 0) + cntS a = κ + ((if isT d then 1 else 0) + cntS a) by omega]
theorem itK_append : ∀ (a b : List D) (κ : Nat),itK κ (a ++ b) = itK κ a ++ itK (κ + cntS a) b
 | [],b,κ=>by rw [List.nil_append,itK,cntS_nil]; rfl
 | d :: a,b,κ=>by
  rw [List.cons_append,itK,itK,itK_append a b,List.append_assoc,cntS_cons,nxK_eq]
  rw [show κ + (if isT d then 1 else 0) + cntS a = κ + ((if isT d then 1 else 0) + cntS a) by omega]
theorem keyOf_cons (d : D) (l : List D) (j : Nat) : keyOf (d :: l) (j + 1) = (if isT d then 1 else 0) + keyOf l j:=by unfold keyOf; rw [List.take_succ_cons,cntS_cons]
theorem kcs_at : ∀ {cs : List D} {κ j : Nat} {d : D},cs[j]? = some d → (kcs κ cs)[j]? = some (kC (κ + keyOf cs j) d)
 | [],κ,j,d,h=>by simp at h
 | e :: l,κ,0,d,h=>by
  obtain rfl : e = d:=by simpa using h
  rfl
 | e :: l,κ,j + 1,d,h=>by
  have ih:=kcs_at (κ:=nxK κ e) (show l[j]? = some d by simpa using h)
  rw [kcs,List.getElem?_cons_succ,ih,keyOf_cons,nxK_eq]
  rw [show κ + (if isT e then 1 else 0) + keyOf l j = κ + ((if isT e then 1 else 0) + keyOf l j) by omega]
theorem itsC_shift (key : Nat → Nat) : ∀ (l : List D) (j k : Nat) (key' : Nat → Nat),(∀ i,i < l.length → key (j + i) = key' (k + i)) → itsC key j l = itsC key' k l
 | [],_,_,_,_=>rfl
 | d :: l,j,k,key',h=>by
  rw [itsC,itsC,itsC_shift key l (j + 1) (k + 1) key' (fun i hi=>by
   have:=h (i + 1) (by rw [List.length_cons]; omega)
   rw [show j + 1 + i = j + (i + 1) by omega,show k + 1 + i = k + (i + 1) by omega]
   exact this),show key j = key' k from h 0 (by rw [List.length_cons]; omega)]
theorem itsC_keyOf : ∀ (cs : List D) (κ : Nat),itsC (fun j=>κ + keyOf cs j) 0 cs = itK κ cs
 | [],_=>rfl
 | d :: l,κ=>by
  rw [itsC,itK,← itsC_keyOf l (nxK κ d)]
  congr 1
  refine itsC_shift _ l 1 0 _ (fun i _=>?_)
  show κ + keyOf (d :: l) (1 + i) = nxK κ d + keyOf l (0 + i)
  rw [Nat.add_comm 1 i,keyOf_cons,nxK_eq,Nat.zero_add]
  omega
theorem keyOf_next {cs : List D} {j : Nat} {d : D} (h : cs[j]? = some d) : keyOf cs (j + 1) = keyOf cs j + if isT d then 1 else 0:=by
 unfold keyOf
 rw [take_next h,cntS_append,cntS_cons,cntS_nil]
 rfl
theorem keyOf_mono (cs : List D) {i j : Nat} (h : i ≤ j) : keyOf cs i ≤ keyOf cs j:=by
 unfold keyOf
 have : cs.take j = cs.take i ++ (cs.take j).drop i:=by
  have h2 : (cs.take j).take i = cs.take i:=by rw [List.take_take,Nat.min_eq_left h]
  rw [← h2,List.take_append_drop]
 rw [this,cntS_append]
 omega
theorem keyOf_all (cs : List D) : keyOf cs cs.length = cntS cs:=by unfold keyOf; rw [List.take_length]
theorem treeC_isT {cs : List D} {j : Nat} (h : treeC cs j) : ∃ d,cs[j]? = some d ∧ isT d = true:=by
 obtain ⟨s,es,h,h0⟩:=h
 refine ⟨_,h,?_⟩
 cases es with
 | nil=>exact absurd rfl h0
 | cons _ _=>rfl
theorem keyOf_lt {cs : List D} {j : Nat} (h : treeC cs j) : keyOf cs j < cntS cs:=by
 obtain ⟨d,hd,ht⟩:=treeC_isT h
 have h1:=keyOf_next hd
 have h2:=keyOf_mono cs (show j + 1 ≤ cs.length from (List.getElem?_eq_some_iff.1 hd).1)
 rw [keyOf_all] at h2
 rw [if_pos ht] at h1
 omega
theorem keyOf_inj {cs : List D} {j j' : Nat} (h : treeC cs j) (h' : treeC cs j') (e : keyOf cs j = keyOf cs j') : j = j':=by
 obtain ⟨d,hd,ht⟩:=treeC_isT h
 obtain ⟨d',hd',ht'⟩:=treeC_isT h'
 have h1:=keyOf_next hd
 have h1':=keyOf_next hd'
 rw [if_pos ht] at h1
 rw [if_pos ht'] at h1'
 rcases Nat.lt_trichotomy j j' with h4 | h4 | h4
 ·have:=keyOf_mono cs (show j + 1 ≤ j' from h4); omega
 ·exact h4
 ·have:=keyOf_mono cs (show j' + 1 ≤ j from h4); omega
theorem itK_lt : ∀ (cs : List D) (κ : Nat),∀ it,it ∈ itK κ cs → it.es ≠ [] → κ ≤ it.κ ∧ it.κ < κ + cntS cs
 | [],κ,it,hit,_=>by cases hit
 | d :: l,κ,it,hit,h0=>by
  rw [itK] at hit
  rw [cntS_cons]
  rcases List.mem_append.1 hit with h | h
  ·cases d with
   | sl s es=>
    obtain rfl:=List.mem_singleton.1 h
    cases es with
    | nil=>exact absurd rfl h0
    | cons a es=>exact ⟨Nat.le_refl _,by show κ < κ + ((if true = true then 1 else 0) + cntS l); rw [if_pos rfl]; omega⟩
   | _=>cases h
  ·have:=itK_lt l (nxK κ d) it h h0
   rw [nxK_eq] at this
   omega
structure El (α : Type) where
 f : α → D
 fc : α → List D
 mkd : List D → D
 s : Nat
 f_eq : ∀ a,f a = mkd (fc a)
 cells : ∀ κ a,(mkd (kcs κ (fc a))).cells = kcs κ (fc a)
 cells0 : ∀ a,(f a).cells = fc a
 len : ∀ a,(fc a).length = s
 tre : ∀ a d,d ∈ fc a → treC d = true
section
variable {α : Type} (X : El α)
def El.all (l : List α) : List D:=l.flatMap X.fc
def El.row : Nat → List α → List D
 | _,[]=>[]
 | κ,a :: l=>X.mkd (kcs κ (X.fc a)) :: El.row (κ + cntS (X.fc a)) l
theorem El.flat : ∀ l : List α,D.flat (l.map X.f) = X.all l
 | []=>rfl
 | a :: l=>by
  have ih:=El.flat l
  unfold D.flat El.all at ih ⊢
  rw [List.map_cons,List.flatMap_cons,List.flatMap_cons,ih,X.cells0]
theorem El.row_len : ∀ (l : List α) (κ : Nat),(X.row κ l).length = l.length
 | [],_=>rfl
 | a :: l,κ=>by rw [El.row,List.length_cons,El.row_len l,List.length_cons]
theorem El.row_flat : ∀ (l : List α) (κ : Nat),D.flat (X.row κ l) = kcs κ (X.all l)
 | [],_=>rfl
 | a :: l,κ=>by
  have ih:=El.row_flat l (κ + cntS (X.fc a))
  unfold El.all at ih ⊢
  have e : ∀ (d : D) (R : List D),D.flat (d :: R) = d.cells ++ D.flat R:=fun d R=>by unfold D.flat; rw [List.flatMap_cons]
  rw [El.row,List.flatMap_cons,kcs_append,e,X.cells,ih]
theorem El.row_at : ∀ {l : List α} {κ i : Nat} {a : α},l[i]? = some a → (X.row κ l)[i]? = some (X.mkd (kcs (κ + cntS (X.all (l.take i))) (X.fc a)))
 | [],κ,i,a,h=>by simp at h
 | b :: l,κ,0,a,h=>by
  obtain rfl : b = a:=by simpa using h
  rfl
 | b :: l,κ,i + 1,a,h=>by
  have ih:=El.row_at (κ:=κ + cntS (X.fc b)) (show l[i]? = some a by simpa using h)
  have e : X.all ((b :: l).take (i + 1)) = X.fc b ++ X.all (l.take i):=rfl
  rw [El.row,List.getElem?_cons_succ,ih,e,cntS_append,Nat.add_assoc]
theorem El.keyed (l : List α) : Keyed (keyOf (D.flat (l.map X.f))) X.s (l.map X.f) (X.row 0 l) where
 len:=by rw [El.row_len,List.length_map]
 cells e he:=by
  obtain ⟨a,_,rfl⟩:=List.mem_map.1 he
  rw [X.cells0,X.len]
 cells2:=by
  have h : ∀ (l : List α) (κ : Nat) (e : D),e ∈ X.row κ l → e.cells.length = X.s:=by
   intro l
   induction l with
   | nil=>intro κ e he; cases he
   | cons a l ih=>
    intro κ e he
    rw [El.row] at he
    rcases List.mem_cons.1 he with rfl | he
    ·rw [X.cells,kcs_len,X.len]
    ·exact ih _ e he
  exact h l 0
 at' j d hd:=by
  refine ⟨?_,?_⟩
  ·rw [El.flat] at hd
   obtain ⟨a,_,ha⟩:=List.mem_flatMap.1 (List.mem_of_getElem? hd)
   exact X.tre a d ha
  ·rw [El.row_flat,← El.flat,kcs_at hd,Nat.zero_add]
theorem El.its (l : List α) : itsC (keyOf (D.flat (l.map X.f))) 0 (D.flat (l.map X.f)) = itK 0 (X.all l):=by
 rw [← El.flat,← itsC_keyOf]
 exact itsC_shift _ _ 0 0 _ (fun i _=>by show keyOf _ (0 + i) = 0 + keyOf _ (0 + i); rw [Nat.zero_add (keyOf _ _)])
theorem El.all_next {l : List α} {i : Nat} {a : α} (h : l[i]? = some a) : X.all (l.take (i + 1)) = X.all (l.take i) ++ X.fc a:=by
 unfold El.all
 rw [take_next h,List.flatMap_append]
 simp
def El.fm (l : List α) : Fm where
 top i:=if i ≤ l.length then cntS (X.all (l.take i)) else cntS (X.all l) + 1
 its i:=if i ≤ l.length then itK 0 (X.all (l.take i)) else [⟨cntS (X.all l),X.s,l.map X.f⟩]
theorem El.fm_top {l : List α} {i : Nat} (h : i ≤ l.length) : (X.fm l).top i = cntS (X.all (l.take i)):=if_pos h
theorem El.fm_its {l : List α} {i : Nat} (h : i ≤ l.length) : (X.fm l).its i = itK 0 (X.all (l.take i)):=if_pos h
theorem El.fm_topE (l : List α) : (X.fm l).top (l.length + 1) = cntS (X.all l) + 1:=if_neg (by omega)
theorem El.fm_itsE (l : List α) : (X.fm l).its (l.length + 1) = [⟨cntS (X.all l),X.s,l.map X.f⟩]:=if_neg (by omega)
theorem El.fm_next {l : List α} {i : Nat} {a : α} (h : l[i]? = some a) : (X.fm l).its (i + 1) = (X.fm l).its i ++ itK (cntS (X.all (l.take i))) (X.fc a):=by
 have hl:=(List.getElem?_eq_some_iff.1 h).1
 rw [El.fm_its X (by omega),El.fm_its X (by omega),El.all_next X h,itK_append,Nat.zero_add]
theorem El.fm_lt {l : List α} {i : Nat} (h : i ≤ l.length) : ∀ it,it ∈ (X.fm l).its i → it.es ≠ [] → it.κ < (X.fm l).top i:=by
 intro it hit hne
 rw [El.fm_its X h] at hit
 rw [El.fm_top X h]
 have:=itK_lt _ 0 it hit hne
 omega
theorem El.fm_end (l : List α) : (X.fm l).its l.length = itsC (keyOf (D.flat (l.map X.f))) 0 (D.flat (l.map X.f)):=by
 rw [El.fm_its X (Nat.le_refl _),El.its,List.take_length]
end
end Go.Proofs.Ytedmegmhjmabcaa
