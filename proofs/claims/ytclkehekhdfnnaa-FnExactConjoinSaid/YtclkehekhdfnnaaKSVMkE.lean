/-
  Marks of expressions: every part of a list of one's own is written. No condition.
-/
import Derived.Test.YtclkehekhdfnnaaKSDca
import Derived.Test.YtclkehekhdfnnaaKSDcd
import Derived.Test.YtclkehekhdfnnaaKSVToE
import Derived.Test.YtclkehekhdfnnaaKSVNest
import Derived.Test.YtclkehekhdfnnaaJSVWLaws
set_option maxHeartbeats 4000000
set_option maxRecDepth 100000
set_option linter.unusedVariables false
set_option linter.unusedSimpArgs false
namespace Go.Proofs.Ytclkehekhdfnnaa
open Go.RowKit
mutual
def mkE : E → Int → E
 | .mk _ _ _ ks,k=>.mk k (k + 1) ⟨(k + 1 + 1).tmod 3 == 0,k + 1 + 1 + 1⟩ (mkEL ks (k + 1 + 1 + 1 + 1))
def mkEL : List E → Int → List E
 | [],_=>[]
 | e :: l,k=>mkE e k :: mkEL l (k + 4 * esz e)
end
theorem mkE_eq (e : E) (k : Int) : mkE e k = .mk k (k + 1) ⟨(k + 1 + 1).tmod 3 == 0,k + 1 + 1 + 1⟩ (mkEL e.ks (k + 1 + 1 + 1 + 1)):=by cases e; rfl
theorem mkEL_len : ∀ (l : List E) (k : Int),(mkEL l k).length = l.length
 | [],_=>rfl
 | e :: l,k=>by rw [mkEL,List.length_cons,mkEL_len l,List.length_cons]
theorem mkEL_at : ∀ {l : List E} {i : Nat} {x : E} (k : Int),l[i]? = some x → (mkEL l k)[i]? = some (mkE x (k + 4 * eszL (l.take i)))
 | [],i,x,k,h=>by simp at h
 | e :: l,0,x,k,h=>by
  obtain rfl : e = x:=by simpa using h
  rw [mkEL,List.take_zero,eszL]
  simp
 | e :: l,i + 1,x,k,h=>by
  have ih:=mkEL_at (k + 4 * esz e) (show l[i]? = some x by simpa using h)
  rw [mkEL,List.getElem?_cons_succ,ih,List.take_succ_cons,eszL]
  congr 2
  omega
def mixE (l : List E) (k : Int) (i : Nat) : List E:=(mkEL l k).take i ++ l.drop i
theorem mixE_len (l : List E) (k : Int) {i : Nat} (h : i ≤ l.length) : (mixE l k i).length = l.length:=by
 unfold mixE
 rw [List.length_append,List.length_take,List.length_drop,mkEL_len]
 omega
theorem mixE_zero (l : List E) (k : Int) : mixE l k 0 = l:=by unfold mixE; rw [List.take_zero,List.drop_zero,List.nil_append]
theorem mixE_end (l : List E) (k : Int) : mixE l k l.length = mkEL l k:=by
 unfold mixE
 rw [List.drop_length,List.append_nil,← mkEL_len l k,List.take_length]
theorem mixE_at {l : List E} (k : Int) {i : Nat} {x : E} (h : l[i]? = some x) : (mixE l k i)[i]? = some x:=by
 have hl:=(List.getElem?_eq_some_iff.1 h).1
 unfold mixE
 rw [List.getElem?_append_right (by rw [List.length_take,mkEL_len]; omega),List.length_take,mkEL_len,List.getElem?_drop]
 rw [show i + (i - min i l.length) = i by omega]
 exact h
theorem mixE_set {l : List E} (k : Int) {i : Nat} {x : E} (h : l[i]? = some x) : (mixE l k i).set i (mkE x (k + 4 * eszL (l.take i))) = mixE l k (i + 1):=by
 have hl:=(List.getElem?_eq_some_iff.1 h).1
 have hm:=mkEL_at k h
 apply List.ext_getElem?
 intro j
 rw [List.getElem?_set]
 by_cases e : i = j
 ·subst e
  rw [if_pos rfl,if_pos (by rw [mixE_len l k (by omega)]; exact hl)]
  unfold mixE
  rw [List.getElem?_append_left (by rw [List.length_take,mkEL_len]; omega),List.getElem?_take,if_pos (by omega),hm]
 ·rw [if_neg e]
  unfold mixE
  by_cases h2 : j < i
  ·rw [List.getElem?_append_left (by rw [List.length_take,mkEL_len]; omega),List.getElem?_append_left (by rw [List.length_take,mkEL_len]; omega),List.getElem?_take,List.getElem?_take,if_pos h2,if_pos (by omega)]
  ·rw [List.getElem?_append_right (by rw [List.length_take,mkEL_len]; omega),List.getElem?_append_right (by rw [List.length_take,mkEL_len]; omega),List.getElem?_drop,List.getElem?_drop,List.length_take,List.length_take,mkEL_len]
   rw [show i + (j - min i l.length) = j by omega,show i + 1 + (j - min (i + 1) l.length) = j by omega]
theorem keyC4 (l : List E) (i : Nat) : keyC l (5 * i + 4) = cntK l i:=by unfold keyC; rw [show (5 * i + 4) / 5 = i by omega]
def rowE (l L : List E) : List D:=L.zipIdx.map fun p=>eK (keyC l (5 * p.2 + 4)) p.1
theorem rowE_len (l L : List E) : (rowE l L).length = L.length:=by unfold rowE; rw [List.length_map,List.length_zipIdx]
theorem rowE_at (l : List E) {L : List E} {i : Nat} {x : E} (h : L[i]? = some x) : (rowE l L)[i]? = some (eK (cntK l i) x):=by
 unfold rowE
 rw [List.getElem?_map,List.getElem?_zipIdx,h,Nat.zero_add]
 show some (eK (keyC l (5 * i + 4)) x) = _
 rw [keyC4]
theorem rowE_set (l : List E) {L : List E} {i : Nat} (y : E) : (rowE l L).set i (eK (cntK l i) y) = rowE l (L.set i y):=by
 apply List.ext_getElem?
 intro j
 by_cases e : i = j
 ·subst e
  rw [List.getElem?_set,if_pos rfl,rowE_len]
  by_cases h : i < L.length
  ·rw [if_pos h,rowE_at l (L:=L.set i y) (x:=y) (by rw [List.getElem?_set,if_pos rfl,if_pos h])]
  ·rw [if_neg h,List.getElem?_eq_none (by rw [rowE_len,List.length_set]; omega)]
 ·rw [List.getElem?_set,if_neg e]
  unfold rowE
  rw [List.getElem?_map,List.getElem?_zipIdx,List.getElem?_map,List.getElem?_zipIdx,List.getElem?_set,if_neg e]
theorem rowE_low (l L : List E) : D.lowL (rowE l L) = true:=D.lowL_iff.2 fun d hd=>by
 obtain ⟨p,_,rfl⟩:=List.mem_map.1 hd
 exact eK_low _ _
theorem rowE_keyed (l L : List E) : Keyed (keyC l) 5 (L.map eD) (rowE l L) where
 len:=by rw [rowE_len,List.length_map]
 cells e he:=by
  obtain ⟨x,_,rfl⟩:=List.mem_map.1 he
  rw [eD_eq]; rfl
 cells2 e he:=by
  obtain ⟨p,_,rfl⟩:=List.mem_map.1 he
  rfl
 at' j d hd:=by
  have h:=cells_eD (keyC l) L 0 j d hd
  rw [Nat.mul_zero,Nat.zero_add] at h
  exact h
theorem itsE (l L : List E) : itsC (keyC l) 0 (D.flat (L.map eD)) = L.zipIdx.map fun p=>⟨cntK l p.2,5,p.1.ks.map eD⟩:=by
 have h:=its_eD (keyC l) L 0 (fun i=>cntK l i) (fun i _=>by rw [Nat.zero_add,keyC4])
 rw [Nat.mul_zero] at h
 exact h
theorem flat_tree : ∀ {l : List E} {j : Nat},treeC (D.flat (l.map eD)) j → ∃ i x,j = 5 * i + 4 ∧ l[i]? = some x ∧ x.ks ≠ []
 | [],j,⟨s,es,h,_⟩=>by simp [D.flat] at h
 | e :: l,j,⟨s,es,h,h0⟩=>by
  rw [flat_eD,List.flatMap_cons,← flat_eD] at h
  match j,h with
  | 0,h=>cases h
  | 1,h=>cases h
  | 2,h=>cases h
  | 3,h=>cases h
  | 4,h=>
   have h : D.sl 5 (e.ks.map eD) = .sl s es:=Option.some.inj h
   injection h with h1 h2
   exact ⟨0,e,rfl,rfl,fun h=>h0 (by rw [← h2,h]; rfl)⟩
  | j + 5,h=>
   obtain ⟨i,x,h1,h2,h3⟩:=flat_tree (l:=l) (j:=j) ⟨s,es,h,h0⟩
   exact ⟨i + 1,x,by omega,by simpa using h2,h3⟩
theorem keyC_lt {l : List E} {j : Nat} (h : treeC (D.flat (l.map eD)) j) : keyC l j < cntK l l.length:=by
 obtain ⟨i,x,rfl,hx,h0⟩:=flat_tree h
 have h1:=cntK_next hx
 have h2:=cntK_mono l (show i + 1 ≤ l.length from (List.getElem?_eq_some_iff.1 hx).1)
 have h3 : nk x = 1:=if_neg h0
 rw [keyC4]
 omega
theorem keyC_inj {l : List E} {j j' : Nat} (h : treeC (D.flat (l.map eD)) j) (h' : treeC (D.flat (l.map eD)) j') (e : keyC l j = keyC l j') : j = j':=by
 obtain ⟨i,x,rfl,hx,h0⟩:=flat_tree h
 obtain ⟨i',x',rfl,hx',h0'⟩:=flat_tree h'
 rw [keyC4,keyC4] at e
 have h1:=cntK_next hx
 have h1':=cntK_next hx'
 have h3 : nk x = 1:=if_neg h0
 have h3' : nk x' = 1:=if_neg h0'
 rcases Nat.lt_trichotomy i i' with h4 | h4 | h4
 ·have:=cntK_mono l (show i + 1 ≤ i' from h4); omega
 ·rw [h4]
 ·have:=cntK_mono l (show i' + 1 ≤ i from h4); omega
theorem perm_erase {α : Type} : ∀ {l : List α} {i : Nat} {a : α},l[i]? = some a → l.Perm (a :: l.eraseIdx i)
 | [],i,a,h=>by simp at h
 | b :: l,0,a,h=>by
  obtain rfl : b = a:=by simpa using h
  exact List.Perm.refl _
 | b :: l,i + 1,a,h=>by
  have ih:=perm_erase (show l[i]? = some a by simpa using h)
  exact (ih.cons b).trans (List.Perm.swap a b _)
def restE (l L : List E) (i : Nat) : List It:=((L.zipIdx.map fun p=>(⟨cntK l p.2,5,p.1.ks.map eD⟩ : It))).eraseIdx i
theorem itsE_perm (l : List E) {L : List E} {i : Nat} {x : E} (h : L[i]? = some x) : (itsC (keyC l) 0 (D.flat (L.map eD))).Perm (⟨cntK l i,5,x.ks.map eD⟩ :: restE l L i):=by
 rw [itsE]
 have h2 : (L.zipIdx.map fun p=>(⟨cntK l p.2,5,p.1.ks.map eD⟩ : It))[i]? = some ⟨cntK l i,5,x.ks.map eD⟩:=by
  rw [List.getElem?_map,List.getElem?_zipIdx,h,Nat.zero_add]; rfl
 exact perm_erase h2
theorem restE_set (l L : List E) (i : Nat) (y : E) : restE l (L.set i y) i = restE l L i:=by
 unfold restE
 apply List.ext_getElem?
 intro j
 rw [List.getElem?_eraseIdx,List.getElem?_eraseIdx]
 have h : ∀ j,j ≠ i → ((L.set i y).zipIdx.map fun p=>(⟨cntK l p.2,5,p.1.ks.map eD⟩ : It))[j]? = (L.zipIdx.map fun p=>(⟨cntK l p.2,5,p.1.ks.map eD⟩ : It))[j]?:=fun j hj=>by
  rw [List.getElem?_map,List.getElem?_map,List.getElem?_zipIdx,List.getElem?_zipIdx,List.getElem?_set,if_neg (fun e=>hj e.symm)]
 by_cases hj : j < i
 ·rw [if_pos hj,if_pos hj,h j (by omega)]
 ·rw [if_neg hj,if_neg hj,h (j + 1) (by omega)]
def likeE (l L : List E) : Prop:=L.length = l.length ∧ ∀ (i : Nat) (x y : E),l[i]? = some x → L[i]? = some y → (x.ks = [] → y.ks = [])
theorem itsE_lt {l L : List E} (h : likeE l L) : ∀ it,it ∈ itsC (keyC l) 0 (D.flat (L.map eD)) → it.es ≠ [] → it.κ < cntK l l.length:=by
 intro it hit hne
 rw [itsE] at hit
 obtain ⟨⟨y,i⟩,hp,rfl⟩:=List.mem_map.1 hit
 have hy:=List.mem_zipIdx_iff_getElem?.1 hp
 have hlt:=(List.getElem?_eq_some_iff.1 hy).1
 obtain ⟨x,hx⟩ : ∃ x,l[i]? = some x:=⟨_,List.getElem?_eq_getElem (by rw [← h.1]; exact hlt)⟩
 have h1:=cntK_next hx
 have h2:=cntK_mono l (show i + 1 ≤ l.length from (List.getElem?_eq_some_iff.1 hx).1)
 have h3 : nk x = 1:=if_neg (fun e=>hne (by show y.ks.map eD = []; rw [h.2 i x y hx hy e]; rfl))
 show cntK l i < _
 omega
theorem restE_lt {l L : List E} (h : likeE l L) (i : Nat) : ∀ it,it ∈ restE l L i → it.es ≠ [] → it.κ < cntK l l.length:=fun it hit hne=>
 itsE_lt h it (by rw [itsE]; exact List.mem_of_mem_eraseIdx hit) hne
theorem mixE_like (l : List E) (k : Int) {i : Nat} (h : i ≤ l.length) : likeE l (mixE l k i):=by
 refine ⟨mixE_len l k h,fun j x y hx hy he=>?_⟩
 have hj:=(List.getElem?_eq_some_iff.1 hx).1
 unfold mixE at hy
 by_cases h2 : j < i
 ·rw [List.getElem?_append_left (by rw [List.length_take,mkEL_len]; omega),List.getElem?_take,if_pos h2,mkEL_at k hx] at hy
  rw [← Option.some.inj hy,mkE_eq,he]
  rfl
 ·rw [List.getElem?_append_right (by rw [List.length_take,mkEL_len]; omega),List.length_take,mkEL_len,List.getElem?_drop,show i + (j - min i l.length) = j by omega,hx] at hy
  rw [← Option.some.inj hy]
  exact he
theorem kD_mk (κ : Nat) (l : List E) (k : Int) : kD κ 5 ((mkEL l k).map eD) = kD κ 5 (l.map eD):=by
 unfold kD
 have h:=mkEL_len l k
 by_cases h0 : l = []
 ·rw [h0]; rfl
 ·rw [if_neg (fun e=>h0 (List.length_eq_zero_iff.1 (by rw [← h,List.map_eq_nil_iff.1 e]; rfl))),if_neg (fun e=>h0 (List.map_eq_nil_iff.1 e)),List.length_map,List.length_map,h]
theorem markExprS_rcS (l : List E) (h0 : l ≠ []) (k : Int) (hk : 0 ≤ k ∧ k + 4 * eszL l ≤ 1099511627776) (hl : eszL l ≤ 1048576)
  (ih : ∀ x,x ∈ l → ∀ k : Int,0 ≤ k ∧ k + 4 * eszL x.ks ≤ 1099511627776 → x.ks ≠ [] → RCalls Try.prog 22 [⟨0,5,x.ks.map eD⟩] [.kow 0 5 x.ks.length,I k] [⟨0,5,(mkEL x.ks k).map eD⟩] 1 (I (k + 4 * eszL x.ks)))
  (hnil : ∀ k : Int,0 ≤ k ∧ k ≤ 1099511627776 → Does Try.prog 22 [] [.sl 5 [],I k] (I k) []) :
  RCalls Try.prog 22 [⟨0,5,l.map eD⟩] [.kow 0 5 l.length,I k] [⟨0,5,(mkEL l k).map eD⟩] 1 (I (k + 4 * eszL l)):=by
 have hlm : (l.map eD).length = l.length:=List.length_map ..
 have hlen:=eszL_len l
 have hcl:=cntK_le l
 have hm0 : l.map eD ≠ []:=fun h=>h0 (List.map_eq_nil_iff.1 h)
 have hmk:=mkEL_len l k
 have hm0' : (mkEL l k).map eD ≠ []:=fun h=>h0 (List.length_eq_zero_iff.1 (by rw [← hmk,List.map_eq_nil_iff.1 h]; rfl))
 have hfl : ∀ L : List E,(D.flat (L.map eD)).length = 5 * L.length:=fun L=>by rw [flat_len (rowE_keyed l L).cells,List.length_map]; omega
 obtain ⟨p,hp⟩ : ∃ p,p = cntK l l.length:=⟨_,rfl⟩
 have hp9 : p ≤ 900000:=by have:=hcl l.length; omega
 let fm : Fm:=⟨fun _=>p,fun i=>itsC (keyC l) 0 (D.flat ((mixE l k i).map eD))⟩
 suffices h : RCalls Try.prog 22 [⟨0,5,l.map eD⟩] (.kow 0 5 (l.map eD).length :: [I k]) [⟨0,5,(mkEL l k).map eD⟩] 1 (I (k + 4 * eszL l)) by rw [hlm] at h; exact h
 refine rcalls_row c_Z12 mixed (es2:=rowE l l) (es2':=rowE l (mkEL l k)) (keyC l) p fm 0 l.length (Nat.le_of_ble_eq_true rfl) hm0 hm0' (by rw [List.length_map,List.length_map,hmk]) (by rw [hfl,hfl,hmk]) (rowE_keyed l l) (rowE_keyed l _) rfl rfl rfl (fun j hj=>by rw [hp]; exact keyC_lt hj) (fun j j' hj hj' e=>keyC_inj hj hj' e)
  (by show (itsC (keyC l) 0 (D.flat ((mixE l k 0).map eD))).Perm _; rw [mixE_zero]) (by show (itsC (keyC l) 0 (D.flat ((mixE l k l.length).map eD))).Perm _; rw [mixE_end]) hp9 (fun m0=>?_)
 rw [hlm]
 conv=>arg 3; whnf
 repeat' (first|with_reducible refine acc_none ?_ | (conv in hold _=>simp (disch:=omega) only [go_sem])|refine Stp.go ?_|(with_reducible first|refine it_pos rfl ?_|refine it_neg (by decide) ?_|refine st_nil rfl ?_|refine s_op ?_ ?_|exact trivial)|((with_reducible first|refine dw_reg0 ?_|refine dw_regB ?_);(conv=>arg 3;whnf))|(refine Spl.go (fun hq he=>?_) (fun hq he=>?_)<;>first|(exfalso;clear hq;omega)|((try first|(conv=>arg 8;simp only [hq])|(conv=>arg 4;simp only [hq]));clear hq))|((with_reducible first|refine c_split (fun hq=>?_) (fun hq=>?_)|refine q_split (fun hq=>?_) (fun hq=>?_))<;>(try first|(conv=>arg 8;simp only [hq])|(conv=>arg 4;simp only [hq])))|(with_reducible refine fin_0 ?_ (by first|rfl|(conv=>lhs;simp only [go_sem])) ?_)|exact Sub.refl _|omega)
 have hren : ∀ (L : List Nat) (i : Nat),D.rnkL L (rowE l (mixE l k i)) = rowE l (mixE l k i):=fun L i=>rnk_low.rnkL_low L _ (rowE_low l _)
 refine dw_for (c:=1) (l:=fun i=>[(gh,.gho 0 [.fam (famOf fm p m0)] 0 i),(0,.own 1000000 5 l.length),(1,I (k + 4 * eszL (l.take i))),(5,I i),(1000000,.row 5 (rowE l (mixE l k i)))]) l.length (fun _=>True) 0 trivial (Wk.listK [1000000] rfl rfl ?_) (fun i hi _=>?_) (Nat.zero_le _)
 ·repeat' (first|(conv in hold _=>simp (disch:=omega) only [go_sem,hren])|exact trivial|exact Sub.refl _|omega)
  rw [mixE_zero,eszL]
  exact ⟨congrArg (fun n=>D.v (Value.int IntKind.i64 n)) (by omega),rfl,rfl⟩
 ·have hml : (rowE l (mixE l k i)).length = l.length:=(rowE_len l _).trans (mixE_len l k hi)
  rcases at_or_end hi with ⟨x,hx,hlt⟩ | rfl
  ·have hnx:=eszL_next hx
   have hxe:=esz_eq x
   have hrest:=eszL_rest l (i + 1) hlt
   have hgi : (rowE l (mixE l k i))[i]? = some (.agg [I x.k,I x.c,Bo x.v.b,I x.v.n,kD (cntK l i) 5 (x.ks.map eD)]):=rowE_at l (mixE_at k hx)
   have hset : ∀ y : D,((rowE l (mixE l k i)).set i y).length = l.length:=fun y=>by rw [List.length_set,hml]
   have hget : ∀ y : D,((rowE l (mixE l k i)).set i y)[i]? = some y:=fun y=>by rw [List.getElem?_set_self (by omega)]
   repeat' ((fail_if_success (with_reducible first | refine s_call ?_ | refine s_cal ?_ | refine s_inv ?_)); first | with_reducible refine acc_none ?_ | (conv in hold _=>simp (disch:=omega) only [go_sem,hml,hlm,hgi,hset,hget,List.set_set])|refine Stp.go ?_|(with_reducible first|refine it_pos rfl ?_|refine it_neg (by decide) ?_|refine st_nil rfl ?_|refine s_op ?_ ?_|exact trivial)|((with_reducible first|refine dw_reg0 ?_|refine dw_regB ?_);(conv=>arg 3;whnf))|(refine Spl.go (fun hq he=>?_) (fun hq he=>?_)<;>first|(exfalso;clear hq;omega)|((try first|(conv=>arg 8;simp only [hq])|(conv=>arg 4;simp only [hq]));clear hq))|((with_reducible first|refine c_split (fun hq=>?_) (fun hq=>?_)|refine q_split (fun hq=>?_) (fun hq=>?_))<;>(try first|(conv=>arg 8;simp only [hq])|(conv=>arg 4;simp only [hq])))|(with_reducible refine fin_0 ?_ (by first|rfl|(conv=>lhs;simp only [go_sem,hml,hlm,hgi,hset,hget,List.set_set])) ?_)|exact Sub.refl _|omega)
   obtain ⟨q,hq⟩ : ∃ q : Int,q = k + 4 * ↑(eszL (l.take i)):=⟨_,rfl⟩
   have hmx : mkE x q = .mk q (q + 1) ⟨(q + 1 + 1).tmod 3 == 0,q + 1 + 1 + 1⟩ (mkEL x.ks (q + 1 + 1 + 1 + 1)):=mkE_eq x q
   have hst : (rowE l (mixE l k i)).set i (.agg [I q,I (q + 1),Bo ((q + 1 + 1).tmod 3 == 0),I (q + 1 + 1 + 1),kD (cntK l i) 5 (x.ks.map eD)]) = rowE l (mixE l k (i + 1)):=by
    rw [← kD_mk,← mixE_set k hx,← rowE_set,← hq,hmx]; rfl
   have hpi:=itsE_perm l (mixE_at k hx)
   have hpn : (itsC (keyC l) 0 (D.flat ((mixE l k (i + 1)).map eD))).Perm (⟨cntK l i,5,(mkEL x.ks (q + 1 + 1 + 1 + 1)).map eD⟩ :: restE l (mixE l k i) i):=by
    have h1 : (mixE l k (i + 1))[i]? = some (mkE x q):=by
     rw [hq,← mixE_set k hx,List.getElem?_set,if_pos rfl,if_pos (by rw [mixE_len l k hi]; exact hlt)]
    have h2:=itsE_perm l h1
    rw [show restE l (mixE l k (i + 1)) i = restE l (mixE l k i) i by rw [← mixE_set k hx,restE_set],hmx] at h2
    exact h2
   rw [← hq]
   have hcx:=cntK_next hx
   have hcm:=cntK_mono l (show i + 1 ≤ l.length by omega)
   by_cases hx0 : x.ks = []
   ·have hke : kD (cntK l i) 5 (x.ks.map eD) = .sl 5 []:=by rw [hx0]; rfl
    refine s_rcall (fm:=fm) (p:=p) (m0:=m0) (k:=i) (i + 1) [] (itsC (keyC l) 0 (D.flat ((mixE l k i).map eD))) (rcalls_nil (post:=[]) (top':=0) (hnil (q + 1 + 1 + 1 + 1) (by omega)) rfl rfl (fun it hit=>(by cases hit))) (by ((conv=>lhs; simp (disch:=omega) only [go_sem]); try rfl)) (by ((conv=>lhs; simp (disch:=omega) only [go_sem]); try rfl)) (by rw [hke]; rfl) (rr:=I (q + 1 + 1 + 1 + 1)) rfl rfl rfl rfl (fun κ h=>(by cases h)) (Nat.le_refl _) (List.Perm.refl _) ?_ (fun it hit _=>(by cases hit)) (fun it hit _=>(by cases hit)) (fun it hit hne=>?_) (Nat.le_refl _) rfl hp9 (Nat.zero_le _) ?_
    ·rw [hx0] at hpn hpi
     exact hpn.trans hpi.symm
    ·have:=itsE_lt (mixE_like l k hi) it hit hne
     show it.κ < p
     omega
    ·have hx1 : eszL x.ks = 0:=by rw [hx0]; rfl
     repeat' (first|with_reducible refine acc_none ?_ | (conv in hold _=>simp (disch:=omega) only [go_sem,hset])|refine Stp.go ?_|(with_reducible first|refine it_pos rfl ?_|refine it_neg (by decide) ?_|refine st_nil rfl ?_|refine s_op ?_ ?_|exact trivial)|((with_reducible first|refine dw_reg0 ?_|refine dw_regB ?_);(conv=>arg 3;whnf))|(refine Spl.go (fun hq he=>?_) (fun hq he=>?_)<;>first|(exfalso;clear hq;omega)|((try first|(conv=>arg 8;simp only [hq])|(conv=>arg 4;simp only [hq]));clear hq))|((with_reducible first|refine c_split (fun hq=>?_) (fun hq=>?_)|refine q_split (fun hq=>?_) (fun hq=>?_))<;>(try first|(conv=>arg 8;simp only [hq])|(conv=>arg 4;simp only [hq])))|(with_reducible refine fin_0 ?_ (by first|rfl|(conv=>lhs;simp only [go_sem,hset])) ?_)|exact Sub.refl _|omega)
     refine ⟨hlt,trivial,Wk.listK [1000000] rfl rfl ?_⟩
     repeat' (first|(conv in hold _=>simp (disch:=omega) only [go_sem,hren])|exact trivial|exact Sub.refl _|omega)
     exact ⟨congrArg (fun n=>D.v (Value.int IntKind.i64 n)) (by omega),congrArg (D.row 5) hst⟩
   ·have hkD : kD (cntK l i) 5 (x.ks.map eD) = .kow (cntK l i) 5 x.ks.length:=by
     unfold kD
     rw [if_neg (fun h=>hx0 (List.map_eq_nil_iff.1 h)),List.length_map]
    have hnk : nk x = 1:=if_neg hx0
    refine s_rcall (fm:=fm) (p:=p) (m0:=m0) (k:=i) (i + 1) [cntK l i] (restE l (mixE l k i) i) (ih x (List.mem_of_getElem? hx) (q + 1 + 1 + 1 + 1) (by omega) hx0) (by ((conv=>lhs; simp (disch:=omega) only [go_sem]); try rfl)) (by ((conv=>lhs; simp (disch:=omega) only [go_sem]); try rfl)) (by rw [hkD]; rfl) (rr:=I (q + 1 + 1 + 1 + 1 + 4 * eszL x.ks)) rfl rfl rfl rfl (fun κ h=>?_) (Nat.le_refl _) hpi hpn (fun it hit _=>?_) (fun it hit _=>?_) (fun it hit hne=>?_) (Nat.le_refl _) rfl hp9 (show 1 ≤ 900000 by omega) ?_
    ·obtain rfl:=List.mem_singleton.1 h
     show cntK l i < p
     omega
    ·obtain rfl:=List.mem_singleton.1 hit
     exact Nat.zero_lt_one
    ·obtain rfl:=List.mem_singleton.1 hit
     exact Nat.zero_lt_one
    ·have:=restE_lt (mixE_like l k hi) i it hit hne
     show it.κ < p
     omega
    ·repeat' (first|with_reducible refine acc_none ?_ | (conv in hold _=>simp (disch:=omega) only [go_sem,hset])|refine Stp.go ?_|(with_reducible first|refine it_pos rfl ?_|refine it_neg (by decide) ?_|refine st_nil rfl ?_|refine s_op ?_ ?_|exact trivial)|((with_reducible first|refine dw_reg0 ?_|refine dw_regB ?_);(conv=>arg 3;whnf))|(refine Spl.go (fun hq he=>?_) (fun hq he=>?_)<;>first|(exfalso;clear hq;omega)|((try first|(conv=>arg 8;simp only [hq])|(conv=>arg 4;simp only [hq]));clear hq))|((with_reducible first|refine c_split (fun hq=>?_) (fun hq=>?_)|refine q_split (fun hq=>?_) (fun hq=>?_))<;>(try first|(conv=>arg 8;simp only [hq])|(conv=>arg 4;simp only [hq])))|(with_reducible refine fin_0 ?_ (by first|rfl|(conv=>lhs;simp only [go_sem,hset])) ?_)|exact Sub.refl _|omega)
     refine ⟨hlt,trivial,Wk.listK [1000000] rfl rfl ?_⟩
     repeat' (first|(conv in hold _=>simp (disch:=omega) only [go_sem,hren])|exact trivial|exact Sub.refl _|omega)
     exact ⟨congrArg (fun n=>D.v (Value.int IntKind.i64 n)) (by omega),congrArg (D.row 5) hst⟩
  ·repeat' (first|with_reducible refine acc_none ?_ | (conv in hold _=>simp (disch:=omega) only [go_sem,hml,hlm,List.take_length])|refine Stp.go ?_|(with_reducible first|refine it_pos rfl ?_|refine it_neg (by decide) ?_|refine st_nil rfl ?_|refine s_op ?_ ?_|exact trivial)|((with_reducible first|refine dw_reg0 ?_|refine dw_regB ?_);(conv=>arg 3;whnf))|(refine Spl.go (fun hq he=>?_) (fun hq he=>?_)<;>first|(exfalso;clear hq;omega)|((try first|(conv=>arg 8;simp only [hq])|(conv=>arg 4;simp only [hq]));clear hq))|((with_reducible first|refine c_split (fun hq=>?_) (fun hq=>?_)|refine q_split (fun hq=>?_) (fun hq=>?_))<;>(try first|(conv=>arg 8;simp only [hq])|(conv=>arg 4;simp only [hq])))|(with_reducible refine fin_0 ?_ (by first|rfl|(conv=>lhs;simp only [go_sem,hml,hlm,List.take_length])) ?_)|exact Sub.refl _|omega)
   refine fin_RR (by ((conv=>lhs; simp (disch:=omega) only [go_sem]); try rfl)) ?_ (by ((conv=>lhs; simp (disch:=omega) only [go_sem]); try rfl)) ?_
   ·repeat' (first|(conv in hold _=>simp (disch:=omega) only [go_sem])|exact trivial|exact Sub.refl _|omega)
   ·repeat' (first|(conv in hold _=>simp (disch:=omega) only [go_sem])|exact trivial|exact Sub.refl _|omega)
    rw [mixE_end]
theorem markExprS_nil (k : Int) : Does Try.prog 22 [] [.sl 5 [],I k] (I k) []:=by
 refine does0 c_Z12 mixed (Nat.le_of_ble_eq_true rfl) ?_
 conv=>arg 3; whnf
 repeat' (first|with_reducible refine acc_none ?_ | (conv in hold _=>simp (disch:=omega) only [go_sem])|refine Stp.go ?_|(with_reducible first|refine it_pos rfl ?_|refine it_neg (by decide) ?_|refine st_nil rfl ?_|refine s_op ?_ ?_|exact trivial)|((with_reducible first|refine dw_reg0 ?_|refine dw_regB ?_);(conv=>arg 3;whnf))|(refine Spl.go (fun hq he=>?_) (fun hq he=>?_)<;>first|(exfalso;clear hq;omega)|((try first|(conv=>arg 8;simp only [hq])|(conv=>arg 4;simp only [hq]));clear hq))|((with_reducible first|refine c_split (fun hq=>?_) (fun hq=>?_)|refine q_split (fun hq=>?_) (fun hq=>?_))<;>(try first|(conv=>arg 8;simp only [hq])|(conv=>arg 4;simp only [hq])))|(with_reducible refine fin_0 ?_ (by first|rfl|(conv=>lhs;simp only [go_sem])) ?_)|exact Sub.refl _|omega)
 refine dw_for (c:=0) (l:=fun i=>[(0,.sl 5 []),(1,I k),(5,I i)]) 0 (fun _=>True) 0 trivial (Wk.list [] rfl rfl ?_) (fun i hi _=>?_) (Nat.zero_le _)
 ·repeat' (first|(conv in hold _=>simp (disch:=omega) only [go_sem])|exact trivial|exact Sub.refl _|omega)
  exact rfl
 ·obtain rfl : i = 0:=by omega
  repeat' (first|with_reducible refine acc_none ?_ | (conv in hold _=>simp (disch:=omega) only [go_sem])|refine Stp.go ?_|(with_reducible first|refine it_pos rfl ?_|refine it_neg (by decide) ?_|refine st_nil rfl ?_|refine s_op ?_ ?_|exact trivial)|((with_reducible first|refine dw_reg0 ?_|refine dw_regB ?_);(conv=>arg 3;whnf))|(refine Spl.go (fun hq he=>?_) (fun hq he=>?_)<;>first|(exfalso;clear hq;omega)|((try first|(conv=>arg 8;simp only [hq])|(conv=>arg 4;simp only [hq]));clear hq))|((with_reducible first|refine c_split (fun hq=>?_) (fun hq=>?_)|refine q_split (fun hq=>?_) (fun hq=>?_))<;>(try first|(conv=>arg 8;simp only [hq])|(conv=>arg 4;simp only [hq])))|(with_reducible refine fin_0 ?_ (by first|rfl|(conv=>lhs;simp only [go_sem])) ?_)|exact Sub.refl _|omega)
theorem markExprS_rc : ∀ e : E,e.ks ≠ [] → ∀ k : Int,0 ≤ k ∧ k + 4 * eszL e.ks ≤ 1099511627776 → eszL e.ks ≤ 1048576 → RCalls Try.prog 22 [⟨0,5,e.ks.map eD⟩] [.kow 0 5 e.ks.length,I k] [⟨0,5,(mkEL e.ks k).map eD⟩] 1 (I (k + 4 * eszL e.ks)):=by
 refine E.ind (fun e ih h0 k hk hl=>?_)
 refine markExprS_rcS e.ks h0 k hk hl (fun x hx k hk hx0=>ih x hx hx0 k hk ?_) (fun k _=>markExprS_nil k)
 have h1:=eszL_mem hx
 have h2:=esz_eq x
 omega
end Go.Proofs.Ytclkehekhdfnnaa
