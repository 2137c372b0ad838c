/-
  The parts of a plan with their paths, plainly. No condition.
-/
import Derived.Test.YtgpdmgaemhelgaaGreatJSVEvI
import Derived.Test.YtgpdmgaemhelgaaGreatKSDca
import Derived.Test.YtgpdmgaemhelgaaGreatJSVClC
import Derived.Test.YtgpdmgaemhelgaaGreatJSVCpE
import Derived.Test.YtgpdmgaemhelgaaGreatJSVBox
import Derived.Test.YtgpdmgaemhelgaaGreatJSVYld
import Derived.Test.YtgpdmgaemhelgaaGreatKSDcb
import Derived.Test.YtgpdmgaemhelgaaGreatJSVEsz
set_option maxHeartbeats 4000000
set_option maxRecDepth 100000
set_option linter.unusedVariables false
set_option linter.unusedSimpArgs false
namespace Go.Proofs.YtgpdmgaemhelgaaGreat
open Go.RowKit
mutual
def ptP : Pl → List Int → List (List Int × Pl)
 | .mk k t es cs ks,pre=>(pre,.mk k t es cs ks) :: ptL ks pre 0
def ptL : List Pl → List Int → Nat → List (List Int × Pl)
 | [],_,_=>[]
 | p :: l,pre,i=>ptP p (pre ++ [(i : Int)]) ++ ptL l pre (i + 1)
end
theorem ptP_eq (p : Pl) (pre : List Int) : ptP p pre = (pre,p) :: ptL p.ks pre 0:=by cases p; rfl
theorem ptL_append : ∀ (l m : List Pl) (pre : List Int) (i : Nat),ptL (l ++ m) pre i = ptL l pre i ++ ptL m pre (i + l.length)
 | [],m,pre,i=>by rw [List.nil_append,ptL,List.nil_append]; rfl
 | p :: l,m,pre,i=>by
  rw [List.cons_append,ptL,ptL,ptL_append l m,List.append_assoc,List.length_cons]
  congr 3
  omega
theorem ptL_next {ks : List Pl} {pre : List Int} {i : Nat} {x : Pl} (h : ks[i]? = some x) : ptL (ks.take (i + 1)) pre 0 = ptL (ks.take i) pre 0 ++ ptP x (pre ++ [(i : Int)]):=by
 have hl:=(List.getElem?_eq_some_iff.1 h).1
 rw [take_next h,ptL_append,ptL,ptL,List.append_nil,Nat.zero_add,List.length_take,Nat.min_eq_left (by omega)]
theorem ptL_take (ks : List Pl) (pre : List Int) (i : Nat) : (ptL (ks.take i) pre 0).length ≤ (ptL ks pre 0).length:=by
 have h:=ptL_append (ks.take i) (ks.drop i) pre 0
 rw [List.take_append_drop] at h
 rw [h,List.length_append]
 omega
theorem ptL_mem : ∀ {l : List Pl} {pre : List Int} {i : Nat} {x : List Int × Pl},x ∈ ptL l pre i → ∃ (j : Nat) (p : Pl),l[j]? = some p ∧ x ∈ ptP p (pre ++ [((i + j : Nat) : Int)])
 | [],pre,i,x,h=>by cases h
 | p :: l,pre,i,x,h=>by
  rw [ptL,List.mem_append] at h
  rcases h with h | h
  ·exact ⟨0,p,rfl,h⟩
  ·obtain ⟨j,q,hq,hx⟩:=ptL_mem h
   exact ⟨j + 1,q,hq,by rw [show i + (j + 1) = i + 1 + j by omega]; exact hx⟩
end Go.Proofs.YtgpdmgaemhelgaaGreat
set_option maxHeartbeats 4000000
set_option maxRecDepth 100000
namespace Go.Proofs.YtgpdmgaemhelgaaGreat
open Go.RowKit
theorem truth_ok (v : V) : Does Tryz.prog 213 [] [vD v] (I (tr v)) []:=by
 unfold tr
 refine does0 c_Z149 mixed (Nat.le_of_ble_eq_true rfl) ?_
 conv=>arg 3; whnf
 repeat' (first|with_reducible refine acc_none ?_ | (conv in hold _=>simp (disch:=omega) only [go_sem])|refine Stp.go ?_|(with_reducible first|refine it_pos rfl ?_|refine it_neg (by decide) ?_|refine st_nil rfl ?_|refine s_op ?_ ?_|exact trivial)|((with_reducible first|refine dw_reg0 ?_|refine dw_regB ?_);(conv=>arg 3;whnf))|(refine Spl.go (fun hq he=>?_) (fun hq he=>?_)<;>first|(exfalso;clear hq;omega)|((try first|(conv=>arg 8;simp only [hq])|(conv=>arg 4;simp only [hq]));clear hq))|((with_reducible first|refine c_split (fun hq=>?_) (fun hq=>?_)|refine q_split (fun hq=>?_) (fun hq=>?_))<;>(try first|(conv=>arg 8;simp only [hq])|(conv=>arg 4;simp only [hq])))|(with_reducible refine fin_0 ?_ (by first|rfl|(conv=>lhs;simp only [go_sem])) ?_)|exact Sub.refl _|omega)
 ·rw [if_pos hq]; exact Sub.refl _
 ·rw [if_neg (by rw [hq]; decide),if_pos he]; exact Sub.refl _
 ·rw [if_neg (by rw [hq]; decide),if_neg he]; exact Sub.refl _
theorem ofTruth_ok (n : Int) : Does Tryz.prog 211 [] [I n] (vD (ofTr n)) []:=by
 refine does0 c_Z137 mixed (Nat.le_of_ble_eq_true rfl) ?_
 conv=>arg 3; whnf
 repeat' (first|with_reducible refine acc_none ?_ | (conv in hold _=>simp (disch:=omega) only [go_sem])|refine Stp.go ?_|(with_reducible first|refine it_pos rfl ?_|refine it_neg (by decide) ?_|refine st_nil rfl ?_|refine s_op ?_ ?_|exact trivial)|((with_reducible first|refine dw_reg0 ?_|refine dw_regB ?_);(conv=>arg 3;whnf))|(refine Spl.go (fun hq he=>?_) (fun hq he=>?_)<;>first|(exfalso;clear hq;omega)|((try first|(conv=>arg 8;simp only [hq])|(conv=>arg 4;simp only [hq]));clear hq))|((with_reducible first|refine c_split (fun hq=>?_) (fun hq=>?_)|refine q_split (fun hq=>?_) (fun hq=>?_))<;>(try first|(conv=>arg 8;simp only [hq])|(conv=>arg 4;simp only [hq])))|(with_reducible refine fin_0 ?_ (by first|rfl|(conv=>lhs;simp only [go_sem])) ?_)|exact Sub.refl _|omega)
 ·rw [show ofTr n = ⟨true,0⟩ from if_pos he]; exact Sub.refl _
 ·rw [show ofTr n = ⟨false,n⟩ from if_neg he]; exact Sub.refl _
theorem andTruth_ok (a b : Int) : Does Tryz.prog 212 [] [I a,I b] (I (andTr a b)) []:=by
 refine does0 c_Z119 mixed (Nat.le_of_ble_eq_true rfl) ?_
 conv=>arg 3; whnf
 repeat' (first|with_reducible refine acc_none ?_ | (conv in hold _=>simp (disch:=omega) only [go_sem])|refine Stp.go ?_|(with_reducible first|refine it_pos rfl ?_|refine it_neg (by decide) ?_|refine st_nil rfl ?_|refine s_op ?_ ?_|exact trivial)|((with_reducible first|refine dw_reg0 ?_|refine dw_regB ?_);(conv=>arg 3;whnf))|(refine Spl.go (fun hq he=>?_) (fun hq he=>?_)<;>first|(exfalso;clear hq;omega)|((try first|(conv=>arg 8;simp only [hq])|(conv=>arg 4;simp only [hq]));clear hq))|((with_reducible first|refine c_split (fun hq=>?_) (fun hq=>?_)|refine q_split (fun hq=>?_) (fun hq=>?_))<;>(try first|(conv=>arg 8;simp only [hq])|(conv=>arg 4;simp only [hq])))|(with_reducible refine fin_0 ?_ (by first|rfl|(conv=>lhs;simp only [go_sem])) ?_)|exact Sub.refl _|omega)
 all_goals (refine Sub.of_eq ?_; congr 2; unfold andTr; repeat' split)
 all_goals omega
theorem notTruth_ok (a : Int) (h : -10 < a ∧ a < 10) : Does Tryz.prog 214 [] [I a] (I (notTr a)) []:=by
 refine does0 c_Z125 mixed (Nat.le_of_ble_eq_true rfl) ?_
 conv=>arg 3; whnf
 repeat' (first|with_reducible refine acc_none ?_ | (conv in hold _=>simp (disch:=omega) only [go_sem])|refine Stp.go ?_|(with_reducible first|refine it_pos rfl ?_|refine it_neg (by decide) ?_|refine st_nil rfl ?_|refine s_op ?_ ?_|exact trivial)|((with_reducible first|refine dw_reg0 ?_|refine dw_regB ?_);(conv=>arg 3;whnf))|(refine Spl.go (fun hq he=>?_) (fun hq he=>?_)<;>first|(exfalso;clear hq;omega)|((try first|(conv=>arg 8;simp only [hq])|(conv=>arg 4;simp only [hq]));clear hq))|((with_reducible first|refine c_split (fun hq=>?_) (fun hq=>?_)|refine q_split (fun hq=>?_) (fun hq=>?_))<;>(try first|(conv=>arg 8;simp only [hq])|(conv=>arg 4;simp only [hq])))|(with_reducible refine fin_0 ?_ (by first|rfl|(conv=>lhs;simp only [go_sem])) ?_)|exact Sub.refl _|omega)
 ·rw [show notTr a = 2 from if_pos he]; exact Sub.refl _
 ·rw [show notTr a = 1 - a from if_neg he]; exact Sub.refl _
theorem toInt_ok (b : Bool) : Does Tryz.prog 216 [] [Bo b] (I (b2i b)) []:=does_toInt b
theorem mul_bound {a b : Int} (h0 : -9999 ≤ a) (h1 : a ≤ 9999) (h2 : -9999 ≤ b) (h3 : b ≤ 9999) : -99980001 ≤ a * b ∧ a * b ≤ 99980001:=by
 have h : (a * b).natAbs ≤ 9999 * 9999:=by
  rw [Int.natAbs_mul]
  exact Nat.mul_le_mul (by omega) (by omega)
 omega
theorem combine_ok (k : Int) (a b : V) (ha : a.ok) (hb : b.ok) : Does Tryz.prog 209 [] [I k,vD a,vD b] (vD (comb k a b)) []:=by
 have:=ha.lo
 have:=ha.hi
 have:=hb.lo
 have:=hb.hi
 have hm:=mul_bound ha.lo ha.hi hb.lo hb.hi
 have ta:=tr_range a
 have tb:=tr_range b
 have na:=notTr_range ta
 have nb':=notTr_range tb
 have nn:=andTr_range (notTr (tr a)) (notTr (tr b))
 refine does0 c_Z135 mixed (Nat.le_of_ble_eq_true rfl) ?_
 conv=>arg 3; whnf
 repeat' (first|with_reducible refine acc_none ?_ | (conv in hold _=>simp (disch:=omega) only [go_sem])|refine Stp.go ?_|(with_reducible first|refine it_pos rfl ?_|refine it_neg (by decide) ?_|refine st_nil rfl ?_|refine s_op ?_ ?_|exact trivial)|((with_reducible first|refine dw_reg0 ?_|refine dw_regB ?_);(conv=>arg 3;whnf))|(refine Spl.go (fun hq he=>?_) (fun hq he=>?_)<;>first|(exfalso;clear hq;omega)|((try first|(conv=>arg 8;simp only [hq])|(conv=>arg 4;simp only [hq]));clear hq))|((with_reducible first|refine c_split (fun hq=>?_) (fun hq=>?_)|refine q_split (fun hq=>?_) (fun hq=>?_))<;>(try first|(conv=>arg 8;simp only [hq])|(conv=>arg 4;simp only [hq])))|(with_reducible refine fin_0 ?_ (by first|rfl|(conv=>lhs;simp only [go_sem])) ?_)|exact Sub.refl _|omega)
 ·refine Uc trivial (truth_ok a) (go1 trivial ?_)
  refine Uc trivial (truth_ok b) (go1 trivial ?_)
  refine Uc trivial (andTruth_ok (tr a) (tr b)) (go1 trivial ?_)
  refine Uc trivial (ofTruth_ok (andTr (tr a) (tr b))) (go1 trivial ?_)
  rw [comb8 he]; exact Sub.refl _
 ·refine Uc trivial (truth_ok a) (go1 trivial ?_)
  refine Uc trivial (notTruth_ok (tr a) (by omega)) (go1 trivial ?_)
  refine Uc trivial (truth_ok b) (go1 trivial ?_)
  refine Uc trivial (notTruth_ok (tr b) (by omega)) (go1 trivial ?_)
  refine Uc trivial (andTruth_ok (notTr (tr a)) (notTr (tr b))) (go1 trivial ?_)
  refine Uc trivial (notTruth_ok (andTr (notTr (tr a)) (notTr (tr b))) (by omega)) (go1 trivial ?_)
  refine Uc trivial (ofTruth_ok (notTr (andTr (notTr (tr a)) (notTr (tr b))))) (go1 trivial ?_)
  rw [comb9 he]; exact Sub.refl _
 ·rw [combN (by assumption) (by assumption) (.inr hq)]; exact Sub.refl _
 ·refine Uc trivial (number_ok (a.n + b.n)) (go1 trivial ?_)
  rw [combX (by omega) (by omega) (by assumption) (by assumption),if_pos he]; exact Sub.refl _
 ·refine Uc trivial (number_ok (a.n - b.n)) (go1 trivial ?_)
  rw [combX (by omega) (by omega) (by assumption) (by assumption),if_neg (by omega),if_pos he]; exact Sub.refl _
 ·refine Uc trivial (number_ok (a.n * b.n)) (go1 trivial ?_)
  rw [combX (by omega) (by omega) (by assumption) (by assumption),if_neg (by omega),if_neg (by omega),if_pos he]; exact Sub.refl _
 ·refine Uc trivial (toInt_ok (a.n == b.n)) (go1 trivial ?_)
  rw [combX (by omega) (by omega) (by assumption) (by assumption),if_neg (by omega),if_neg (by omega),if_neg (by omega),if_pos he]; exact Sub.refl _
 ·refine Uc trivial (toInt_ok (decide (a.n < b.n))) (go1 trivial ?_)
  rw [combX (by omega) (by omega) (by assumption) (by assumption),if_neg (by omega),if_neg (by omega),if_neg (by omega),if_neg he]; exact Sub.refl _
 ·rw [combN (by assumption) (by assumption) (.inl hq)]; exact Sub.refl _
end Go.Proofs.YtgpdmgaemhelgaaGreat
set_option maxHeartbeats 4000000
set_option maxRecDepth 100000
set_option linter.unusedVariables false
set_option linter.unusedSimpArgs false
namespace Go.Proofs.YtgpdmgaemhelgaaGreat
open Go.RowKit
def kidAt (p : Pl) (i : Int) : Option Pl:=if 0 ≤ i then p.ks[i.toNat]? else none
def paOf : Pl → List Int → Option Pl
 | p,[]=>some p
 | p,i :: l=>(kidAt p i).bind fun q=>paOf q l
theorem paOf_append : ∀ (l m : List Int) (p : Pl),paOf p (l ++ m) = (paOf p l).bind fun q=>paOf q m
 | [],m,p=>rfl
 | i :: l,m,p=>by
  rw [List.cons_append,paOf,paOf]
  cases kidAt p i with
  | none=>rfl
  | some q=>exact paOf_append l m q
theorem paOf_next {p : Pl} {l : List Int} {i : Nat} {x : Int} (h : l[i]? = some x) : paOf p (l.take (i + 1)) = (paOf p (l.take i)).bind fun q=>kidAt q x:=by
 rw [take_next h,paOf_append]
 congr 1
 funext q
 rw [paOf]
 cases kidAt q x with
 | none=>rfl
 | some y=>rfl
theorem kidAt_sz {p q : Pl} {i : Int} (h : kidAt p i = some q) : psz q ≤ psz p:=by
 unfold kidAt at h
 split at h
 ·have h1:=pszL_mem (List.mem_of_getElem? h)
  rw [psz_eq p]
  omega
 ·cases h
theorem paOf_sz : ∀ (l : List Int) (p q : Pl),paOf p l = some q → psz q ≤ psz p
 | [],p,q,h=>by
  obtain rfl : p = q:=by simpa [paOf] using h
  exact Nat.le_refl _
 | i :: l,p,q,h=>by
  rw [paOf] at h
  cases hk : kidAt p i with
  | none=>rw [hk] at h; cases h
  | some y=>
   rw [hk] at h
   have h1:=kidAt_sz hk
   have h2:=paOf_sz l y q h
   omega
theorem kidAt_some {p q : Pl} {i : Int} (h : kidAt p i = some q) : 0 ≤ i ∧ i < p.ks.length ∧ p.ks[i.toNat]? = some q:=by
 unfold kidAt at h
 split at h
 ·rename_i h0
  have:=(List.getElem?_eq_some_iff.1 h).1
  exact ⟨h0,by omega,h⟩
 ·cases h
theorem kidAt_none {p : Pl} {i : Int} (h : kidAt p i = none) : ¬ (0 ≤ i ∧ i < p.ks.length):=by
 rintro ⟨h0,h1⟩
 unfold kidAt at h
 rw [if_pos h0,List.getElem?_eq_none_iff] at h
 omega
def zP : Pl:=.mk 0 0 [] [] []
def paV (m : Nat) (p : Pl) (l : List Int) : Option Pl:=if l.length ≤ m then paOf p l else none
def paD : Option Pl → D
 | some q=>.tup [pD q,Bo true]
 | none=>.tup [pD zP,Bo false]
theorem zP_sub : Sub (.tup [.agg [I 0,I 0,.nul,.nul,.nul],Bo false]) (paD none):=Sub.tup ⟨by rw [pD_eq]; exact Sub.agg ⟨Sub.refl _,Sub.refl _,Sub.nul 5,Sub.nul 1,Sub.nul 5,trivial⟩,Sub.refl _,trivial⟩
theorem paD_pur (o : Option Pl) : (paD o).pur = true:=by
 cases o with
 | none=>show (D.tup [pD zP,Bo false]).pur = true; rw [pD_eq]; rfl
 | some q=>show (D.tup [pD q,Bo true]).pur = true; rw [pD_eq]; rfl
end Go.Proofs.YtgpdmgaemhelgaaGreat
set_option maxHeartbeats 4000000
set_option maxRecDepth 100000
namespace Go.Proofs.YtgpdmgaemhelgaaGreat
open Go.RowKit
def useL (u : Nat → Bool) : List D:=(List.range 6).map fun j=>Bo (u j)
theorem useL_get {u : Nat → Bool} {i : Nat} (h : i < 6) : (useL u)[i]? = some (Bo (u i)):=by
 unfold useL
 rw [List.getElem?_map,List.getElem?_range h]
 rfl
theorem useL_len (u : Nat → Bool) : (useL u).length = 6:=by unfold useL; rw [List.length_map,List.length_range]
theorem useL_take (u : Nat → Bool) : (useL u).take 6 = useL u:=List.take_of_length_le (by rw [useL_len]; exact Nat.le_refl 6)
theorem useL_set {u : Nat → Bool} {i : Nat} {b : Bool} (h : i < 6) : (useL u).set i (Bo b) = useL fun j=>if j = i then b else u j:=by
 apply List.ext_getElem?
 intro j
 by_cases hj : j < 6
 ·rw [useL_get hj,List.getElem?_set,useL_len,useL_get hj]
  by_cases e : i = j
  ·subst e; rw [if_pos rfl,if_pos h,if_pos rfl]
  ·rw [if_neg e,if_neg (fun e'=>e e'.symm)]
 ·rw [List.getElem?_eq_none (by rw [List.length_set,useL_len]; omega),List.getElem?_eq_none (by rw [useL_len]; omega)]
theorem useL_pur (u : Nat → Bool) : D.purL (useL u) = true:=by rfl
theorem useL_ren (L : List Nat) (u : Nat → Bool) : D.renL L (useL u) = useL u:=ren_pure.renL_pure L _ (useL_pur u)
attribute [go_sem] Nat.mul_one useL_get useL_len useL_take useL_set useL_pur useL_ren
mutual
def occ : E → Nat → Bool
 | .mk k c _ ks,i=>(k == 1 && c == (i : Int)) || occL ks i
def occL : List E → Nat → Bool
 | [],_=>false
 | e :: l,i=>occ e i || occL l i
end
theorem occ_eq (e : E) (i : Nat) : occ e i = ((e.k == 1 && e.c == (i : Int)) || occL e.ks i):=by cases e; rfl
theorem occL_append : ∀ (l m : List E) (i : Nat),occL (l ++ m) i = (occL l i || occL m i)
 | [],m,i=>by rw [List.nil_append,occL,Bool.false_or]
 | e :: l,m,i=>by rw [List.cons_append,occL,occL,occL_append l m i,Bool.or_assoc]
theorem occL_next {es : List E} {i : Nat} {x : E} (h : es[i]? = some x) (j : Nat) : occL (es.take (i + 1)) j = (occL (es.take i) j || occ x j):=by
 rw [take_next h,occL_append,occL,occL,Bool.or_false]
def upto (e : E) (i : Nat) : Nat → Bool:=fun j=>(e.k == 1 && e.c == (j : Int)) || occL (e.ks.take i) j
def inner (e : E) (i : Nat) (x : E) (m : Nat) : Nat → Bool:=fun j=>upto e i j || (decide (j < m) && occ x j)
theorem inner_zero (e : E) (i : Nat) (x : E) : inner e i x 0 = upto e i:=by
 funext j
 simp [inner]
theorem inner_end {e : E} {i : Nat} {x : E} (h : e.ks[i]? = some x) : useL (inner e i x 6) = useL (upto e (i + 1)):=by
 unfold useL
 refine List.map_congr_left (fun j hj=>?_)
 have : j < 6:=List.mem_range.1 hj
 simp [inner,upto,occL_next h,this,Bool.or_assoc]
theorem inner_next (e : E) (i : Nat) (x : E) (m : Nat) : (fun j=>if j = m then (inner e i x m m || occ x m) else inner e i x m j) = inner e i x (m + 1):=by
 funext j
 by_cases h : j = m
 ·subst h; simp [inner]
 ·simp only [h,if_false,inner]
  have : decide (j < m + 1) = decide (j < m):=by congr 1; exact propext (by omega)
  rw [this]
theorem usedColumns_ok : ∀ (e : E) (d : Nat),eOk e 6 d → Does Tryz.prog 183 [] [eD e] (.agg (useL (occ e))) []:=by
 refine E.ind (fun e ih d h=>?_)
 have hl:=((eOk_iff e _ d).1 h).2.2.2
 have hkid:=((eOk_iff e _ d).1 h).2.2.1
 have hn2:=kidsN_le e.k
 have hlen:=((eOk_iff e _ d).1 h).1
 have hc : e.k = 1 → 0 ≤ e.c ∧ e.c ≤ 5:=fun hk=>by
  unfold leafOk at hl
  rw [if_pos hk] at hl
  omega
 have h0 : e.k = 1 → useL (fun j=>if j = e.c.toNat then true else false) = useL (upto e 0):=fun hk=>by
  have:=hc hk
  unfold useL
  refine List.map_congr_left (fun j _=>?_)
  have e1 : (e.c == (j : Int)) = decide (j = e.c.toNat):=by
   rw [Bool.eq_iff_iff,beq_iff_eq,decide_eq_true_iff]
   omega
  simp only [upto,hk,e1,occL,List.take_zero,beq_self_eq_true,Bool.true_and,Bool.or_false]
  by_cases hj : j = e.c.toNat <;> simp [hj]
 have h1 : ¬ e.k = 1 → useL (fun _=>false) = useL (upto e 0):=fun hk=>by
  unfold useL
  refine List.map_congr_left (fun j _=>?_)
  simp [upto,hk,occL]
 have hend : useL (upto e e.ks.length) = useL (occ e):=by
  unfold useL
  refine List.map_congr_left (fun j _=>?_)
  rw [upto,List.take_length,occ_eq]
 have hz : ∀ b : Bool,[D.v (.bool b),D.v (.bool b),D.v (.bool b),D.v (.bool b),D.v (.bool b),D.v (.bool b)] = useL (fun _=>b):=fun b=>rfl
 refine does0 c_Z61 mixed (Nat.le_of_ble_eq_true rfl) ?_
 conv=>arg 3; whnf
 repeat' (first|with_reducible refine acc_none ?_ | (conv in hold _=>simp (disch:=omega) only [go_sem,hz])|refine Stp.go ?_|(with_reducible first|refine it_pos rfl ?_|refine it_neg (by decide) ?_|refine st_nil rfl ?_|refine s_op ?_ ?_|exact trivial)|((with_reducible first|refine dw_reg0 ?_|refine dw_regB ?_);(conv=>arg 3;whnf))|(refine Spl.go (fun hq he=>?_) (fun hq he=>?_)<;>first|(exfalso;clear hq;omega)|((try first|(conv=>arg 8;simp only [hq])|(conv=>arg 4;simp only [hq]));clear hq))|((with_reducible first|refine c_split (fun hq=>?_) (fun hq=>?_)|refine q_split (fun hq=>?_) (fun hq=>?_))<;>(try first|(conv=>arg 8;simp only [hq])|(conv=>arg 4;simp only [hq])))|(with_reducible refine fin_0 ?_ (by first|rfl|(conv=>lhs;simp only [go_sem,hz])) ?_)|exact Sub.refl _|omega)
 all_goals
  refine dw_for (c:=2) (l:=fun i=>[(2,.ref 1000000 0),(3,.ref 1000001 0),(15,.sl 5 (e.ks.map eD)),(16,I e.ks.length),(17,I i),(1000000,.obj (useL fun _=>false)),(1000001,.obj (useL (upto e i)))]) e.ks.length (fun _=>True) 0 trivial (Wk.list [2000002,2000003] rfl rfl ?_) (fun i hi _=>?_) (Nat.zero_le _)
  ·repeat' (first|(conv in hold _=>simp (disch:=omega) only [go_sem,hz])|exact trivial|exact Sub.refl _|omega)
   first | exact ⟨rfl,congrArg D.obj (h0 he)⟩ | exact ⟨rfl,congrArg D.obj (h1 he)⟩
  ·rcases at_or_end hi with ⟨x,hx,hlt⟩ | rfl
   ·have hox:=ih x (List.mem_of_getElem? hx) (d - 1) (hkid x (List.mem_of_getElem? hx))
    refine go1 (cj2 @hz @hx) ?_
    refine Uc (cj2 @hz @useL_pur) (hox) (go1 (cj2 @hz @useL_pur) ?_)
    refine dw_for (c:=2) (l:=fun m=>[(2,.ref 1000000 0),(3,.ref 1000001 0),(15,.sl 5 (e.ks.map eD)),(16,I e.ks.length),(17,I i),(22,.agg (useL (occ x))),(23,I m),(1000000,.obj (useL fun _=>false)),(1000001,.obj (useL (inner e i x m)))]) 6 (fun _=>True) 0 trivial (Wk.list [1000000,1000001] rfl rfl ?_) (fun m hm _=>?_) (Nat.zero_le _)
    ·repeat' (first|(conv in hold _=>simp (disch:=omega) only [go_sem,hz])|exact trivial|exact Sub.refl _|omega)
     exact ⟨rfl,by rw [inner_zero]⟩
    ·by_cases hm6 : m < 6
     ·repeat' (first|with_reducible refine acc_none ?_ | (conv in hold _=>simp (disch:=omega) only [go_sem,hz])|refine Stp.go ?_|(with_reducible first|refine it_pos rfl ?_|refine it_neg (by decide) ?_|refine st_nil rfl ?_|refine s_op ?_ ?_|exact trivial)|((with_reducible first|refine dw_reg0 ?_|refine dw_regB ?_);(conv=>arg 3;whnf))|(refine Spl.go (fun hq he=>?_) (fun hq he=>?_)<;>first|(exfalso;clear hq;omega)|((try first|(conv=>arg 8;simp only [hq])|(conv=>arg 4;simp only [hq]));clear hq))|((with_reducible first|refine c_split (fun hq=>?_) (fun hq=>?_)|refine q_split (fun hq=>?_) (fun hq=>?_))<;>(try first|(conv=>arg 8;simp only [hq])|(conv=>arg 4;simp only [hq])))|(with_reducible refine fin_0 ?_ (by first|rfl|(conv=>lhs;simp only [go_sem,hz])) ?_)|exact Sub.refl _|omega)
      all_goals
       refine ⟨hm6,trivial,Wk.list [1000000,1000001] rfl rfl ?_⟩
       repeat' (first|(conv in hold _=>simp (disch:=omega) only [go_sem,hz])|exact trivial|exact Sub.refl _|omega)
       rw [← inner_next,hq]
       try rfl
     ·obtain rfl : m = 6:=by omega
      refine go1 @hz ?_
      refine ⟨hlt,trivial,Wk.list [1000000,1000001] rfl rfl ?_⟩
      repeat' (first|(conv in hold _=>simp (disch:=omega) only [go_sem,hz])|exact trivial|exact Sub.refl _|omega)
      rw [inner_end hx]
   ·refine go1 @hz ?_
    rw [hend]; exact Sub.refl _
end Go.Proofs.YtgpdmgaemhelgaaGreat
