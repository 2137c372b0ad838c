/-
  Rows of one's own whose elements are changed one after the other, for elements of any kind. No condition.
-/
import Derived.Test.YtedmegmhjmabcaaKSVGen
import Derived.Test.YtedmegmhjmabcaaKSVFlat
set_option maxHeartbeats 4000000
set_option maxRecDepth 100000
set_option linter.unusedVariables false
set_option linter.unusedSimpArgs false
namespace Go.Proofs.Ytedmegmhjmabcaa
open Go.RowKit
def nE {α : Type} (l : List α) : Nat:=if l = [] then 0 else 1
theorem isT_map {α : Type} (s : Nat) (f : α → D) (l : List α) : (if isT (.sl s (l.map f)) then 1 else 0) = nE l:=by
 cases l with
 | nil=>rfl
 | cons a l=>unfold nE; rw [if_neg (List.cons_ne_nil _ _)]; rfl
theorem isT_len {s s' : Nat} : ∀ {a b : List D},a.length = b.length → isT (.sl s a) = isT (.sl s' b)
 | [],[],_=>rfl
 | [],_ :: _,h=>by cases h
 | _ :: _,[],h=>by cases h
 | _ :: _,_ :: _,_=>rfl
theorem nE_le {α : Type} (l : List α) : nE l ≤ 1 ∧ nE l ≤ l.length:=by
 unfold nE
 cases l with
 | nil=>simp
 | cons a l=>simp
theorem kD_two (κ s : Nat) (es : List D) : kD κ s es = .sl s [] ∨ kD κ s es = .kow κ s es.length:=by
 unfold kD
 split
 ·exact .inl rfl
 ·exact .inr rfl
def likeL : List It → List It → Prop
 | [],[]=>True
 | a :: l,b :: m=>(a.s = b.s ∧ a.es = b.es ∧ (a.es ≠ [] → a.κ = b.κ)) ∧ likeL l m
 | _,_=>False
theorem OwnL.like {w : World} {m : Names} : ∀ {l l' : List It} {B : Blocks},OwnL l w m B → likeL l l' → OwnL l' w m B
 | [],[],_,h,_=>h
 | a :: l,b :: l',_,⟨B1,B2,h1,h2,h3,h4⟩,⟨⟨e1,e2,e3⟩,e4⟩=>⟨B1,B2,by
  obtain ⟨κ,s,es⟩:=a
  obtain ⟨κ',s',es'⟩:=b
  obtain rfl : s = s':=e1
  obtain rfl : es = es':=e2
  by_cases h0 : es = []
  ·rcases h1 with h1 | ⟨h1,_⟩
   ·exact .inl h1
   ·exact absurd h0 h1
  ·obtain rfl : κ = κ':=e3 h0
   exact h1,h2.like e4,h3,h4⟩
 | [],_ :: _,_,_,h=>h.elim
 | _ :: _,[],_,_,h=>h.elim
theorem nE_ne {α : Type} {l : List α} {f : α → D} (h : l.map f ≠ []) : nE l = 1:=if_neg (fun e=>h (by rw [e]; rfl))
theorem RCalls.top {P : Program} {f : FuncId} {pre post : List It} {ds : List D} {t t' : Nat} {r : D} (h : RCalls P f pre ds post t r) (ht : t ≤ t') : RCalls P f pre ds post t' r:=by
 intro w F m B xs h1 h2 h3 h4 h5 h6
 refine (h w F m B xs h1 h2 h3 h4 h5 h6).mono ?_
 rintro e w' ⟨x,F',m',B',q1,q2,q3,q4,q5,q6,q7,q8,q9⟩
 exact ⟨x,F',m',B',q1,q2,q3,q4,q5,q6,fun κ hκ=>q7 κ (by omega),q8,q9⟩
theorem ownL_nil {w : World} {m : Names} : ∀ {l : List It},(∀ it,it ∈ l → it.es = []) → OwnL l w m noBlocks
 | [],_=>fun _ hb=>hb
 | it :: l,hl=>⟨noBlocks,noBlocks,.inl ⟨hl it (List.mem_cons_self ..),fun _ hb=>hb⟩,ownL_nil (fun x hx=>hl x (List.mem_cons_of_mem _ hx)),fun _ hb=>hb.elim,fun b=>⟨fun h=>h.elim,fun h=>h.elim id id⟩⟩
theorem rcalls_nilP {P : Program} {f : FuncId} {pre post : List It} {ds : List D} {r : D} (h : Does P f [] ds r []) (hds : D.purL ds = true) (hr : r.pur = true) (hp : ∀ it,it ∈ post → it.es = []) : RCalls P f pre ds post pre.length r:=by
 intro w F m B xs hwf hO hBF hmn hxl hfz
 refine (h w F noNames xs hxl (Nat.zero_le _) hwf (fun i d x hd hx=>(hfz i d x hd hx).pure (D.purL_iff.1 hds d (List.mem_of_getElem? hd)) noNames) (fun i d hd=>by simp at hd) (fun _ _=>rfl) (fun i j b hi=>by simp at hi)).mono ?_
 rintro e w' ⟨x,F',m',rfl,c,wf',_,_,hx,_⟩
 have hT : ∀ b,¬ (∃ i,i < ([] : List D).length ∧ noNames (nb + i) = some (some b)):=fun b ⟨i,hi,_⟩=>by simp at hi
 exact ⟨x,F',m,noBlocks,rfl,c.mono (fun b hb=>(hT b hb).elim),wf',fun _ hb=>hb.elim,fun _ _ hb=>hb.elim,fun κ hκ=>rfl,fun κ hκ=>hmn κ hκ,hx.pure hr m,ownL_nil hp⟩
theorem kD_lenE {es es' : List D} (h : es'.length = es.length) (κ s : Nat) : kD κ s es = kD κ s es':=by
 unfold kD
 by_cases h0 : es = []
 ·rw [if_pos h0,if_pos (List.length_eq_zero_iff.1 (by rw [h,h0]; rfl))]
 ·rw [if_neg h0,if_neg (fun e=>h0 (List.length_eq_zero_iff.1 (by rw [← h,e]; rfl))),h]
def pat (cs : List D) : List Bool:=cs.map isT
theorem pat_append (a b : List D) : pat (a ++ b) = pat a ++ pat b:=by unfold pat; rw [List.map_append]
theorem cntS_pat : ∀ {a b : List D},pat a = pat b → cntS a = cntS b
 | [],[],_=>rfl
 | [],_ :: _,h=>by cases h
 | _ :: _,[],h=>by cases h
 | x :: a,y :: b,h=>by
  have h' : isT x :: pat a = isT y :: pat b:=h
  injection h' with h1 h2
  rw [cntS_cons,cntS_cons,h1,cntS_pat h2]
theorem keyOf_pat {a b : List D} (h : pat a = pat b) : keyOf a = keyOf b:=by
 funext j
 unfold keyOf
 refine cntS_pat ?_
 unfold pat at h ⊢
 rw [List.map_take,List.map_take,h]
def mixA {α : Type} (new old : List α) (i : Nat) : List α:=new.take i ++ old.drop i
theorem mixA_zero {α : Type} (new old : List α) : mixA new old 0 = old:=by unfold mixA; rw [List.take_zero,List.drop_zero,List.nil_append]
theorem mixA_end {α : Type} {new old : List α} (h : new.length = old.length) : mixA new old old.length = new:=by
 unfold mixA
 rw [List.drop_length,List.append_nil,← h,List.take_length]
theorem mixA_len {α : Type} {new old : List α} (h : new.length = old.length) {i : Nat} (hi : i ≤ old.length) : (mixA new old i).length = old.length:=by
 unfold mixA
 rw [List.length_append,List.length_take,List.length_drop]
 omega
theorem mixA_at {α : Type} {new old : List α} (h : new.length = old.length) {i : Nat} {a : α} (ha : old[i]? = some a) : (mixA new old i)[i]? = some a:=by
 have hi:=(List.getElem?_eq_some_iff.1 ha).1
 unfold mixA
 rw [List.getElem?_append_right (by rw [List.length_take]; omega),List.length_take,List.getElem?_drop,show i + (i - min i new.length) = i by omega]
 exact ha
theorem mixA_set {α : Type} {new old : List α} (h : new.length = old.length) {i : Nat} {a' : α} (ha : new[i]? = some a') : (mixA new old i).set i a' = mixA new old (i + 1):=by
 have hi:=(List.getElem?_eq_some_iff.1 ha).1
 apply List.ext_getElem?
 intro j
 rw [List.getElem?_set]
 by_cases e : i = j
 ·subst e
  rw [if_pos rfl,if_pos (by rw [mixA_len h (by omega)]; omega)]
  unfold mixA
  rw [List.getElem?_append_left (by rw [List.length_take]; omega),List.getElem?_take,if_pos (by omega),ha]
 ·rw [if_neg e]
  unfold mixA
  by_cases h2 : j < i
  ·rw [List.getElem?_append_left (by rw [List.length_take]; omega),List.getElem?_append_left (by rw [List.length_take]; omega),List.getElem?_take,List.getElem?_take,if_pos h2,if_pos (by omega)]
  ·rw [List.getElem?_append_right (by rw [List.length_take]; omega),List.getElem?_append_right (by rw [List.length_take]; omega),List.getElem?_drop,List.getElem?_drop,List.length_take,List.length_take]
   rw [show i + (j - min i new.length) = j by omega,show i + 1 + (j - min (i + 1) new.length) = j by omega]
theorem mixA_take {α : Type} {new old : List α} (h : new.length = old.length) {i : Nat} (hi : i ≤ old.length) : (mixA new old i).take i = new.take i:=by
 unfold mixA
 rw [List.take_append_of_le_length (by rw [List.length_take]; omega),List.take_take,Nat.min_self]
section
variable {α : Type} (X : El α)
def El.like (old new : List α) : Prop:=new.length = old.length ∧ ∀ (i : Nat) (a a' : α),old[i]? = some a → new[i]? = some a' → pat (X.fc a') = pat (X.fc a)
theorem El.like_tail {a a' : α} {old new : List α} (h : X.like (a :: old) (a' :: new)) : X.like old new:=⟨by have:=h.1; simpa using this,fun i b b' hb hb'=>h.2 (i + 1) b b' (by simpa using hb) (by simpa using hb')⟩
theorem El.like_all : ∀ {old new : List α},X.like old new → pat (X.all new) = pat (X.all old)
 | [],[],_=>rfl
 | [],_ :: _,h=>by have:=h.1; simp at this
 | _ :: _,[],h=>by have:=h.1; simp at this
 | a :: old,a' :: new,h=>by
  have e : ∀ (a : α) (l : List α),X.all (a :: l) = X.fc a ++ X.all l:=fun _ _=>rfl
  rw [e,e,pat_append,pat_append,El.like_all (X.like_tail h),h.2 0 a a' rfl rfl]
theorem El.like_take {old new : List α} (h : X.like old new) (i : Nat) : X.like (old.take i) (new.take i):=by
 refine ⟨by rw [List.length_take,List.length_take,h.1],fun j a a' ha ha'=>?_⟩
 rw [List.getElem?_take] at ha ha'
 split at ha
 ·rename_i hj
  rw [if_pos hj] at ha'
  exact h.2 j a a' ha ha'
 ·cases ha
theorem El.like_cnt {old new : List α} (h : X.like old new) (i : Nat) : cntS (X.all (new.take i)) = cntS (X.all (old.take i)):=cntS_pat (X.like_all (X.like_take h i))
theorem El.row_set {a' : α} : ∀ {l : List α} {κ i : Nat} {a : α},l[i]? = some a → pat (X.fc a') = pat (X.fc a) → (X.row κ l).set i (X.mkd (kcs (κ + cntS (X.all (l.take i))) (X.fc a'))) = X.row κ (l.set i a')
 | [],_,_,_,h,_=>by simp at h
 | b :: l,κ,0,a,h,hp=>by
  obtain rfl : b = a:=by simpa using h
  rw [List.set_cons_zero,El.row,El.row,List.set_cons_zero,cntS_pat hp]
  rfl
 | b :: l,κ,i + 1,a,h,hp=>by
  have ih:=El.row_set (κ:=κ + cntS (X.fc b)) (show l[i]? = some a by simpa using h) hp
  have e : X.all ((b :: l).take (i + 1)) = X.fc b ++ X.all (l.take i):=rfl
  rw [List.set_cons_succ,El.row,El.row,List.set_cons_succ,← ih,e,cntS_append,Nat.add_assoc]
theorem El.mix_at {old new : List α} (hl : X.like old new) {i : Nat} {a : α} (h : old[i]? = some a) : (X.row 0 (mixA new old i))[i]? = some (X.mkd (kcs (cntS (X.all (old.take i))) (X.fc a))):=by
 have hi:=(List.getElem?_eq_some_iff.1 h).1
 have h2:=El.row_at X (κ:=0) (mixA_at hl.1 h)
 rw [mixA_take hl.1 (by omega),X.like_cnt hl,Nat.zero_add] at h2
 exact h2
theorem El.mix_set {old new : List α} (hl : X.like old new) {i : Nat} {a a' : α} (h : old[i]? = some a) (h' : new[i]? = some a') : (X.row 0 (mixA new old i)).set i (X.mkd (kcs (cntS (X.all (old.take i))) (X.fc a'))) = X.row 0 (mixA new old (i + 1)):=by
 have hi:=(List.getElem?_eq_some_iff.1 h).1
 have h2:=El.row_set X (κ:=0) (a':=a') (mixA_at hl.1 h) (hl.2 i a a' h h')
 rw [mixA_take hl.1 (by omega),X.like_cnt hl,Nat.zero_add,mixA_set hl.1 h'] at h2
 exact h2
theorem El.row_snoc : ∀ (l : List α) (κ : Nat) (a : α),X.row κ (l ++ [a]) = X.row κ l ++ [X.mkd (kcs (κ + cntS (X.all l)) (X.fc a))]
 | [],κ,a=>rfl
 | b :: l,κ,a=>by
  have e : X.all (b :: l) = X.fc b ++ X.all l:=rfl
  rw [List.cons_append,El.row,El.row_snoc l,El.row,List.cons_append,e,cntS_append,Nat.add_assoc]
theorem El.row_next {l : List α} {i : Nat} {a : α} (h : l[i]? = some a) : X.row 0 (l.take (i + 1)) = X.row 0 (l.take i) ++ [X.mkd (kcs (cntS (X.all (l.take i))) (X.fc a))]:=by rw [take_next h,El.row_snoc,Nat.zero_add]
def El.rest (old new : List α) (i : Nat) : List It:=itK 0 (X.all (new.take i)) ++ itK (cntS (X.all (old.take (i + 1)))) (X.all (old.drop (i + 1)))
theorem El.all_append (a b : List α) : X.all (a ++ b) = X.all a ++ X.all b:=by unfold El.all; rw [List.flatMap_append]
theorem El.mix_its {old new : List α} (hl : X.like old new) {i : Nat} {a : α} (h : old[i]? = some a) : (itK 0 (X.all (mixA new old i))).Perm (itK (cntS (X.all (old.take i))) (X.fc a) ++ X.rest old new i):=by
 have hi:=(List.getElem?_eq_some_iff.1 h).1
 have e : old.drop i = a :: old.drop (i + 1):=by
  rw [List.drop_eq_getElem_cons hi]
  congr 1
  have:=List.getElem?_eq_getElem hi
  rw [h] at this
  exact (Option.some.inj this).symm
 unfold mixA El.rest
 rw [El.all_append,itK_append,e,X.like_cnt hl,Nat.zero_add]
 have e2 : X.all (a :: old.drop (i + 1)) = X.fc a ++ X.all (old.drop (i + 1)):=rfl
 rw [e2,itK_append,El.all_next X h,cntS_append,← List.append_assoc,← List.append_assoc]
 exact (List.perm_append_comm).append_right _
theorem El.mix_its1 {old new : List α} (hl : X.like old new) {i : Nat} {a a' : α} (h : old[i]? = some a) (h' : new[i]? = some a') : (itK 0 (X.all (mixA new old (i + 1)))).Perm (itK (cntS (X.all (old.take i))) (X.fc a') ++ X.rest old new i):=by
 have hi:=(List.getElem?_eq_some_iff.1 h).1
 unfold mixA El.rest
 rw [El.all_append,itK_append,X.like_cnt hl,Nat.zero_add,El.all_next X h',itK_append,X.like_cnt hl,Nat.zero_add,← List.append_assoc]
 exact (List.perm_append_comm).append_right _
theorem cntS_take_le (l : List α) (i : Nat) : cntS (X.all (l.take i)) ≤ cntS (X.all l):=by
 have h : X.all l = X.all (l.take i) ++ X.all (l.drop i):=by rw [← El.all_append,List.take_append_drop]
 rw [h,cntS_append]
 omega
theorem El.rest_lt {old new : List α} (hl : X.like old new) (i : Nat) : ∀ it,it ∈ X.rest old new i → it.es ≠ [] → it.κ < cntS (X.all old):=by
 intro it hit hne
 unfold El.rest at hit
 rcases List.mem_append.1 hit with h | h
 ·have h1:=itK_lt _ 0 it h hne
  rw [X.like_cnt hl] at h1
  have:=cntS_take_le X old i
  omega
 ·have h1:=itK_lt _ _ it h hne
  have h2 : X.all old = X.all (old.take (i + 1)) ++ X.all (old.drop (i + 1)):=by rw [← El.all_append,List.take_append_drop]
  rw [h2,cntS_append]
  omega
def El.mixF (old new : List α) : Fm:=⟨fun _=>cntS (X.all old) + 1,fun i=>itK 0 (X.all (mixA new old i))⟩
theorem rcalls_rowG {P : Program} {xo : List Nat} {f : FuncId} {n : Nat} {dc : DC} {rs : List Res} (hc : cfun P xo f = some (n,dc,rs)) (hm : P.follows .mixedOrders = true) {old new : List α} {ds : List D} {r : D} (fm : Fm) (p k1 : Nat) (hlike : X.like old new) (h0 : old ≠ []) (hl : ds.length + 1 ≤ n) (hds : D.purL ds = true) (hr : r.scal = true)
  (ht0 : fm.top 0 = p) (hcp : cntS (X.all old) ≤ p) (hfn : p ≤ 900000) (hi0 : (fm.its 0).Perm (itK 0 (X.all old))) (hi1 : (fm.its k1).Perm (itK 0 (X.all new)))
  (hd : ∀ m0,dwp P 1 dc (hold (entRR (famOf fm p m0) X.s old.length 0 (X.row 0 old) ds)) (FinRR rs r fm p m0 k1 X.s (X.row 0 new)) (fun _ _=>False) (FinRR rs r fm p m0 k1 X.s (X.row 0 new))) :
  RCalls P f [⟨0,X.s,old.map X.f⟩] (.kow 0 X.s old.length :: ds) [⟨0,X.s,new.map X.f⟩] 1 r:=by
 have hlm : (old.map X.f).length = old.length:=List.length_map ..
 have hnm : (new.map X.f).length = new.length:=List.length_map ..
 have hm0 : old.map X.f ≠ []:=fun h=>h0 (List.map_eq_nil_iff.1 h)
 have hn0 : new.map X.f ≠ []:=fun h=>h0 (List.length_eq_zero_iff.1 (by rw [← hlike.1,← hnm,h]; rfl))
 have hk:=El.keyed X old
 have hk':=El.keyed X new
 have hpat : pat (D.flat (new.map X.f)) = pat (D.flat (old.map X.f)):=by rw [El.flat,El.flat]; exact X.like_all hlike
 have hke : keyOf (D.flat (new.map X.f)) = keyOf (D.flat (old.map X.f)):=keyOf_pat hpat
 rw [hke] at hk'
 have hfl : (D.flat (new.map X.f)).length = (D.flat (old.map X.f)).length:=by
  have:=congrArg List.length hpat
  unfold pat at this
  rwa [List.length_map,List.length_map] at this
 have hcf : cntS (D.flat (old.map X.f)) = cntS (X.all old):=by rw [El.flat]
 rw [← hlm]
 refine rcalls_row hc hm (es:=old.map X.f) (es':=new.map X.f) (es2:=X.row 0 old) (es2':=X.row 0 new) (keyOf (D.flat (old.map X.f))) p fm 0 k1 hl hm0 hn0 (by rw [hlm,hnm,hlike.1]) hfl hk hk' hds hr ht0 (fun j hj=>by have:=keyOf_lt hj; omega) (fun j j' hj hj' e=>keyOf_inj hj hj' e) ?_ ?_ hfn (fun m0=>by rw [hlm]; exact hd m0)
 ·rw [El.its]
  exact hi0
 ·rw [← hke,El.its]
  exact hi1
theorem rcalls_rowX {P : Program} {xo : List Nat} {f : FuncId} {n : Nat} {dc : DC} {rs : List Res} (hc : cfun P xo f = some (n,dc,rs)) (hm : P.follows .mixedOrders = true) {old new : List α} {ds : List D} {r : D} (hlike : X.like old new) (h0 : old ≠ []) (hl : ds.length + 1 ≤ n) (hds : D.purL ds = true) (hr : r.scal = true) (hfn : cntS (X.all old) ≤ 800000)
  (hd : ∀ m0,dwp P 1 dc (hold (entRR (famOf (X.mixF old new) (cntS (X.all old) + 1) m0) X.s old.length 0 (X.row 0 old) ds)) (FinRR rs r (X.mixF old new) (cntS (X.all old) + 1) m0 old.length X.s (X.row 0 new)) (fun _ _=>False) (FinRR rs r (X.mixF old new) (cntS (X.all old) + 1) m0 old.length X.s (X.row 0 new))) :
  RCalls P f [⟨0,X.s,old.map X.f⟩] (.kow 0 X.s old.length :: ds) [⟨0,X.s,new.map X.f⟩] 1 r:=by
 refine rcalls_rowG X hc hm (X.mixF old new) (cntS (X.all old) + 1) old.length hlike h0 hl hds hr rfl (by omega) (by omega) ?_ ?_ hd
 ·show (itK 0 (X.all (mixA new old 0))).Perm _
  rw [mixA_zero]
 ·show (itK 0 (X.all (mixA new old old.length))).Perm _
  rw [mixA_end hlike.1]
end
end Go.Proofs.Ytedmegmhjmabcaa
