/-
  The width of a plan out of those of its kids, in the program. No condition.
-/
import Derived.Test.YtgpdmgaemhelgaaGreatJSDcVWid
import Derived.Test.YtgpdmgaemhelgaaGreatKSDca
import Derived.Test.YtgpdmgaemhelgaaGreatJSVTruI
import Derived.Test.YtgpdmgaemhelgaaGreatJSVWid
import Derived.Test.YtgpdmgaemhelgaaGreatJSVClA
import Derived.Test.YtgpdmgaemhelgaaGreatJSVYld
import Derived.Test.YtgpdmgaemhelgaaGreatKSDcb
import Derived.Test.YtgpdmgaemhelgaaGreatJSVCols
import Derived.Test.YtgpdmgaemhelgaaGreatJSVEsz
import Derived.Test.YtgpdmgaemhelgaaGreatJSVBox
import Derived.Test.YtgpdmgaemhelgaaGreatJSDce
import Derived.Test.YtgpdmgaemhelgaaGreatJSVCond
import Derived.Test.YtgpdmgaemhelgaaGreatJSVColsC
set_option maxHeartbeats 4000000
set_option maxRecDepth 100000
namespace Go.Proofs.YtgpdmgaemhelgaaGreat
open Go.RowKit
def zeroIn (ns : List Int) : Prop:=∃ j : Nat,ns[j]? = some (0 : Int)
noncomputable instance zeroDec (ns : List Int) : Decidable (zeroIn ns):=Classical.propDecidable _
noncomputable instance resDec (p : Pl) (ns : List Int) : Decidable (fieldsI p ∧ fitsV p ns):=Classical.propDecidable _
noncomputable def resV (p : Pl) (ns : List Int) : Int:=if zeroIn ns then 0 else if fieldsI p ∧ fitsV p ns then fromV p ns else 0
theorem resV_z {p : Pl} {ns : List Int} (h : zeroIn ns) : resV p ns = 0:=if_pos h
theorem resV_t {p : Pl} {ns : List Int} (h : ¬ zeroIn ns) (h1 : fieldsI p) (h2 : fitsV p ns) : resV p ns = fromV p ns:=by unfold resV; rw [if_neg h,if_pos ⟨h1,h2⟩]
theorem resV_f {p : Pl} {ns : List Int} (h2 : ¬ (fieldsI p ∧ fitsV p ns)) : resV p ns = 0:=by
 unfold resV
 by_cases hz : zeroIn ns
 ·rw [if_pos hz]
 ·rw [if_neg hz,if_neg h2]
theorem widthWithin_main (p : Pl) (ws : List Int) (d : Nat) (hd : d < 1000) (hf : fieldsI p) (hk : ¬ p.k = 1) (hc : p.cs.length ≤ 1048576) (he : p.es.length ≤ 1048576) (ns : List Int) (hl : ns.length = p.ks.length) (hn : ∀ (j : Nat) (x : Int),ns[j]? = some x → 0 ≤ x ∧ x ≤ 6)
  (hB : ∀ (i : Nat) (x : Pl) (n : Int),p.ks[i]? = some x → ns[i]? = some n → Does Tryz.prog 56 [] [pD x,intsD ws,I ((d : Int) - 1)] (I n) []) : Does Tryz.prog 56 [] [pD p,intsD ws,I d] (I (resV p ns)) []:=by
 have ho:=hasOwnFields_ok p
 rw [decide_eq_true hf] at ho
 have hf1:=hf.1
 have hks : 1 ≤ p.ks.length ∧ p.ks.length ≤ 2:=by unfold fields at hf1; omega
 have hk6 : p.k = 6 → 1 < ns.length:=by unfold fields at hf1; omega
 have hfit:=fitsKids_ok p ns (by omega) hc he hn (by omega) hk6
 have hfrom:=widthFrom_ok p ns (by omega) hc hn (by omega)
 refine Bg c_Z64 mixed (go1 trivial ?_)
 refine Uc trivial (ho) (go1 trivial ?_)
 refine dw_for (c:=2) (l:=fun i=>[(1,intsD ws),(2,I d),(3,.ref 1000000 0),(7,.own 1000001 1 i),(37,.sl 5 (p.ks.map pD)),(38,I p.ks.length),(39,I i),(1000000,.obj [I p.k,I p.t,.sl 5 (p.es.map eD),intsD p.cs,.sl 5 (p.ks.map pD)]),(1000001,.row 1 ((ns.take i).map I))]) p.ks.length (fun i=>∀ (j : Nat) (n : Int),j < i → ns[j]? = some n → ¬ n = 0) 0 (fun j n hj=>by omega) ((wk_row 7 2000053 1 (by decide) (by decide) rfl rfl).trans (Wk.list [2000003,2000053] rfl rfl ?_)) (fun i hi hJ=>?_) (Nat.zero_le _)
 ·repeat' (first|(conv in hold _=>simp (disch:=omega) only [go_sem])|exact trivial|exact Sub.refl _|omega)
  exact rfl
 ·have hlt:=take_len (vs:=ns) (i:=i) (by omega)
  have hmt:=take_map I (vs:=ns) (i:=i) (by omega)
  by_cases hil : i < p.ks.length
  ·obtain ⟨x,hx⟩ : ∃ x,p.ks[i]? = some x:=⟨_,List.getElem?_eq_getElem hil⟩
   obtain ⟨n,hnx,_⟩:=get_ex (ns:=ns) (i:=i) (by omega)
   have hix:=hB i x n hx hnx
   have htn:=take_next hnx
   by_cases hn0 : n = 0
   ·rw [resV_z ⟨i,by rw [hnx,hn0]⟩]
    refine go1 @hx ?_
    exact Uc trivial (hix) (go0 trivial)
   ·refine go1 @hx ?_
    refine Uc trivial (hix) (go1 trivial ?_)
    refine ⟨hil,upto1 (P:=fun _ n=>¬ n = 0) hnx hn0 hJ,Wk.list [1000000,2000053] rfl rfl ?_⟩
    repeat' (first|(conv in hold _=>simp (disch:=omega) only [go_sem])|exact trivial|exact Sub.refl _|omega)
    rw [hmt,htn,List.map_append,List.map_cons,List.map_nil]
  ·obtain rfl : i = p.ks.length:=by omega
   have hz : ¬ zeroIn ns:=fun ⟨j,hj⟩=>hJ j 0 (by rw [← hl]; exact (List.getElem?_eq_some_iff.1 hj).1) hj rfl
   have e1 : ns.take p.ks.length = ns:=List.take_of_length_le (by omega)
   have e2 : (ns.map I).take p.ks.length = ns.map I:=List.take_of_length_le (by rw [List.length_map]; omega)
   by_cases hv : fitsV p ns
   ·rw [decide_eq_true hv] at hfit
    rw [resV_t hz hf hv]
    refine go1C @e1 ?_
    refine s_pre (pre_frz2 (t:=56) (u:=7) (g:=1000001) (by decide) (by decide) (by decide) rfl ?_) ?_
    rotate_left
    refine go1 (cj3 @e1 @e2 @hl) ?_
    ·refine Uc trivial (hfit) (go1 trivial ?_)
     exact Uc trivial (hfrom) (go0 trivial)
    ·exact ints_pur _
   ·rw [decide_eq_false hv] at hfit
    rw [resV_f (fun h=>hv h.2)]
    refine go1C @e1 ?_
    refine s_pre (pre_frz2 (t:=56) (u:=7) (g:=1000001) (by decide) (by decide) (by decide) rfl ?_) ?_
    rotate_left
    refine go1 (cj3 @e1 @e2 @hl) ?_
    ·exact Uc trivial (hfit) (go0 trivial)
    ·exact ints_pur _
end Go.Proofs.YtgpdmgaemhelgaaGreat
set_option maxHeartbeats 4000000
set_option maxRecDepth 100000
namespace Go.Proofs.YtgpdmgaemhelgaaGreat
open Go.RowKit
def stV (v : V) : Int:=if v.b = true then 4 else if v.n = 0 then 1 else 2
theorem stateOf_spec (v : V) : Does Tryz.prog 202 [] [vD v] (I (stV v)) []:=by
 unfold stV
 by_cases hb : v.b = true
 ·rw [if_pos hb]
  exact Bg c_Z140 mixed (go0 @hb)
 ·rw [if_neg hb]
  rw [Bool.not_eq_true] at hb
  by_cases hn : v.n = 0
  ·rw [if_pos hn]
   exact Bg c_Z140 mixed (go0 @hb)
  ·rw [if_neg hn]
   exact Bg c_Z140 mixed (go0 @hb)
theorem stateOf_impl (v : V) : Does Tryz.prog 193 [] [vD v] (I (stV v)) []:=by
 have h:=truth_of_ok v
 unfold itr at h
 unfold stV
 by_cases hb : v.b = true
 ·rw [if_pos hb] at h ⊢
  refine Bg c_Z132 mixed (go1 trivial ?_)
  exact Uc trivial (h) (go0 trivial)
 ·rw [if_neg hb] at h ⊢
  by_cases hn : v.n = 0
  ·rw [if_pos hn] at h ⊢
   refine Bg c_Z132 mixed (go1 trivial ?_)
   exact Uc trivial (h) (go0 trivial)
  ·rw [if_neg hn] at h ⊢
   refine Bg c_Z132 mixed (go1 trivial ?_)
   exact Uc trivial (h) (go0 trivial)
def valS (x : Int) : V:=if x = 4 then ⟨true,0⟩ else if x = 2 then ⟨false,1⟩ else ⟨false,0⟩
theorem valueOf_ok (x : Int) : Does Tryz.prog 210 [] [I x] (vD (valS x)) []:=by
 unfold valS
 by_cases h4 : x = 4
 ·rw [if_pos h4]
  exact Bg c_Z141 mixed (go0 trivial)
 ·rw [if_neg h4]
  by_cases h2 : x = 2
  ·rw [if_pos h2]
   exact Bg c_Z141 mixed (go0 trivial)
  ·rw [if_neg h2]
   exact Bg c_Z141 mixed (go0 trivial)
def sT (t : Int) : Int:=stV (itv t)
def tt : List Int:=[0,1,2]
def tsel (a t : Int) : Bool:=intBit .and .i64 a (sT t) != 0
def tl (a : Int) : List Int:=tt.filter (tsel a)
theorem tl_len (a : Int) : (tl a).length ≤ 3:=List.length_filter_le ..
theorem truthsOf_ok (a : Int) : Does Tryz.prog 206 [] [I a] (.sl 1 ((tl a).map I)) []:=by
 refine Bg c_Z116 mixed (go1 trivial ?_)
 refine dw_for (c:=1) (l:=fun i=>[(0,I a),(3,.own 1000000 1 ((tt.take i).filter (tsel a)).length),(6,.sl 1 (tt.map I)),(7,I 3),(8,I i),(1000000,.row 1 (((tt.take i).filter (tsel a)).map I))]) 3 (fun _=>True) 0 trivial ((wk_row 3 2000021 1 (by decide) (by decide) rfl rfl).trans (Wk.list [2000021] rfl rfl ?_)) (fun i hi _=>?_) (Nat.zero_le _)
 ·repeat' (first|(conv in hold _=>simp (disch:=omega) only [go_sem])|exact trivial|exact Sub.refl _|omega)
  exact ⟨rfl,rfl,rfl,rfl,rfl⟩
 ·by_cases hil : i < 3
  ·obtain ⟨x,hx⟩ : ∃ x,tt[i]? = some x:=⟨_,List.getElem?_eq_getElem (show i < tt.length from hil)⟩
   have hv:=truth_value_ok x
   have hs:=stateOf_impl (itv x)
   have hnx:=take_next hx
   have hfl : ((tt.take i).filter (tsel a)).length ≤ 3:=Nat.le_trans (List.length_filter_le ..) (by rw [List.length_take]; exact Nat.min_le_right ..)
   have htl : tt.length = 3:=rfl
   refine go1 @hx ?_
   refine Uc trivial (hv) (go1 trivial ?_)
   refine c_doesE (hs) ?_ ?_ ?_
   ·((try (conv=>rhs;simp (disch:=omega) only [go_sem])); try rfl)
   ·first|rfl|(conv=>lhs;simp only [go_sem])
   repeat' (first|with_reducible refine acc_none ?_ | (conv in hold _=>simp (disch:=omega) only [go_sem])|refine Stp.go ?_|(with_reducible first|refine it_pos rfl ?_|refine it_neg (by decide) ?_|refine st_nil rfl ?_|refine s_op ?_ ?_|exact trivial)|((with_reducible first|refine dw_reg0 ?_|refine dw_regB ?_);(conv=>arg 3;whnf))|(refine Spl.go (fun hq he=>?_) (fun hq he=>?_)<;>first|(exfalso;clear hq;omega)|((try first|(conv=>arg 8;simp only [hq])|(conv=>arg 4;simp only [hq]));clear hq))|((with_reducible first|refine c_split (fun hq=>?_) (fun hq=>?_)|refine q_split (fun hq=>?_) (fun hq=>?_))<;>(try first|(conv=>arg 8;simp only [hq])|(conv=>arg 4;simp only [hq])))|(with_reducible refine fin_0 ?_ (by first|rfl|(conv=>lhs;simp only [go_sem])) ?_)|exact Sub.refl _|omega)
   ·have hsel : tsel a x = true:=bne_iff_ne.2 (by assumption)
    have hfn : (tt.take (i + 1)).filter (tsel a) = (tt.take i).filter (tsel a) ++ [x]:=by
     rw [hnx,List.filter_append,List.filter_cons,if_pos hsel]
     rfl
    refine ⟨hil,trivial,Wk.list [2000021] rfl rfl ?_⟩
    repeat' (first|(conv in hold _=>simp (disch:=omega) only [go_sem])|exact trivial|exact Sub.refl _|omega)
    rw [hfn,List.length_append,List.map_append]
    exact ⟨rfl,rfl⟩
   ·have hsel : ¬ tsel a x = true:=fun h=>bne_iff_ne.1 h (by assumption)
    have hfn : (tt.take (i + 1)).filter (tsel a) = (tt.take i).filter (tsel a):=by
     rw [hnx,List.filter_append,List.filter_cons,if_neg hsel]
     simp
    refine ⟨hil,trivial,Wk.list [1000000] rfl rfl ?_⟩
    repeat' (first|(conv in hold _=>simp (disch:=omega) only [go_sem])|exact trivial|exact Sub.refl _|omega)
    rw [hfn]
    exact ⟨rfl,rfl⟩
  ·obtain rfl : i = 3:=by omega
   have e1 : tt.take 3 = tt:=rfl
   have e2 : ((tl a).map I).take (tl a).length = (tl a).map I:=List.take_of_length_le (by rw [List.length_map]; exact Nat.le_refl _)
   have e3 : tt.filter (tsel a) = tl a:=rfl
   refine go1F (cj2 @e1 @e3) ?_
   refine fin_wk (wk_frz 2 1000000 (by decide) (by decide) rfl ?_) ?_
   rotate_left
   (conv in hold _=>simp (disch:=omega) only [go_sem,e2,Nat.le_refl])
   ·refine fin_L [] ?_ ?_ rfl ?_
    all_goals exact Ag trivial
   ·exact ints_pur _
def neg (a : Int) : Int:=(tl a).foldl (fun r t=>intBit .or .i64 r (sT (2 - t))) 0
theorem foldl_next {α β : Type} {f : β → α → β} {z : β} {l : List α} {i : Nat} {x : α} (h : l[i]? = some x) : (l.take (i + 1)).foldl f z = f ((l.take i).foldl f z) x:=by
 rw [take_next h,List.foldl_append]
 rfl
theorem tl_mem {a t : Int} (h : t ∈ tl a) : 0 ≤ t ∧ t ≤ 2:=by
 have:=(List.mem_filter.1 h).1
 simp [tt] at this
 omega
theorem negatedStates_ok (a : Int) : Does Tryz.prog 194 [] [I a] (I (neg a)) []:=by
 have h:=truthsOf_ok a
 have hl:=tl_len a
 refine Bg c_Z30 mixed (go1 trivial ?_)
 refine Uc trivial (h) (go1 trivial ?_)
 refine dw_for (c:=0) (l:=fun i=>[(3,I (((tl a).take i).foldl (fun r t=>intBit .or .i64 r (sT (2 - t))) 0)),(7,.sl 1 ((tl a).map I)),(8,I (tl a).length),(9,I i)]) (tl a).length (fun _=>True) 0 trivial (Wk.list [] rfl rfl ?_) (fun i hi _=>?_) (Nat.zero_le _)
 ·repeat' (first|(conv in hold _=>simp (disch:=omega) only [go_sem])|exact trivial|exact Sub.refl _|omega)
  exact ⟨rfl,rfl⟩
 ·rcases at_or_end hi with ⟨x,hx,hlt⟩ | rfl
  ·have hn:=truth_not_ok x (tl_mem (List.mem_of_getElem? hx))
   have hv:=truth_value_ok (2 - x)
   have hs:=stateOf_impl (itv (2 - x))
   have hnx:=foldl_next (f:=fun r t=>intBit .or .i64 r (sT (2 - t))) (z:=(0 : Int)) hx
   refine go1 @hx ?_
   refine Uc trivial (hn) (go1 trivial ?_)
   refine Uc trivial (hv) (go1 trivial ?_)
   refine Uc trivial (hs) (go1 trivial ?_)
   refine ⟨hlt,trivial,Wk.list [] rfl rfl ?_⟩
   repeat' (first|(conv in hold _=>simp (disch:=omega) only [go_sem,hnx])|exact trivial|exact Sub.refl _|omega)
   rfl
  ·have e1 : (tl a).take (tl a).length = tl a:=List.take_length
   exact go0 @e1
end Go.Proofs.YtgpdmgaemhelgaaGreat
set_option maxHeartbeats 4000000
set_option maxRecDepth 100000
set_option linter.unusedVariables false
set_option linter.unusedSimpArgs false
namespace Go.Proofs.YtgpdmgaemhelgaaGreat
open Go.RowKit
theorem inRangeP_ok (n lo hi : Int) : Does Tryz.prog 136 [] [I n,I lo,I hi] (Bo (decide (lo ≤ n ∧ n ≤ hi))) []:=by
 refine does0 c_Z136 mixed (Nat.le_of_ble_eq_true rfl) ?_
 conv=>arg 3; whnf
 repeat' (first|with_reducible refine acc_none ?_ | (conv in hold _=>simp (disch:=omega) only [go_sem])|refine Stp.go ?_|(with_reducible first|refine it_pos rfl ?_|refine it_neg (by decide) ?_|refine st_nil rfl ?_|refine s_op ?_ ?_|exact trivial)|((with_reducible first|refine dw_reg0 ?_|refine dw_regB ?_);(conv=>arg 3;whnf))|(refine Spl.go (fun hq he=>?_) (fun hq he=>?_)<;>first|(exfalso;clear hq;omega)|((try first|(conv=>arg 8;simp only [hq])|(conv=>arg 4;simp only [hq]));clear hq))|((with_reducible first|refine c_split (fun hq=>?_) (fun hq=>?_)|refine q_split (fun hq=>?_) (fun hq=>?_))<;>(try first|(conv=>arg 8;simp only [hq])|(conv=>arg 4;simp only [hq])))|(with_reducible refine fin_0 ?_ (by first|rfl|(conv=>lhs;simp only [go_sem])) ?_)|exact Sub.refl _|omega)
 all_goals first
  | exact sub_t (by omega)
  | exact sub_f (by omega)
  | exact sub_iff (by simp; omega)
theorem eqIntsP_ok (l : List Int) (hl : l.length < 2000000) : Does Tryz.prog 20 [] [intsD l,intsD l] (Bo true) []:=by
 refine Bg c_Z97 mixed (go1 trivial ?_)
 refine dw_for (c:=0) (l:=fun i=>[(0,intsD l),(1,intsD l),(5,I i)]) l.length (fun _=>True) 0 trivial (Wk.list [] rfl rfl ?_) (fun i hi _=>?_) (Nat.zero_le _)
 ·repeat' (first|(conv in hold _=>simp (disch:=omega) only [go_sem])|exact trivial|exact Sub.refl _|omega)
  (repeat' apply And.intro) <;> rfl
 ·rcases at_or_end hi with ⟨x,hx,hlt⟩ | rfl
  ·refine go1 @hx ?_
   refine ⟨hlt,trivial,Wk.list [] rfl rfl ?_⟩
   exact Ag trivial
  ·exact go0 trivial
def pq (p : Pl) (l : List Int) (i : Nat) : Pl:=(paOf p (l.take i)).getD zP
theorem pq_next {p : Pl} {l : List Int} {i : Nat} {x : Int} {q : Pl} (h : l[i]? = some x) (ho : paOf p (l.take i) = some (pq p l i)) (hk : kidAt (pq p l i) x = some q) : paOf p (l.take (i + 1)) = some (pq p l (i + 1)) ∧ pq p l (i + 1) = q:=by
 have h1 : paOf p (l.take (i + 1)) = some q:=by rw [paOf_next h,ho]; exact hk
 have h2 : pq p l (i + 1) = q:=by unfold pq; rw [h1]; rfl
 exact ⟨by rw [h2]; exact h1,h2⟩
theorem paOf_stop {p : Pl} {l : List Int} {i : Nat} {x : Int} (h : l[i]? = some x) (ho : paOf p (l.take i) = some (pq p l i)) (hk : kidAt (pq p l i) x = none) : paOf p l = none:=by
 rw [← List.take_append_drop (i + 1) l,paOf_append,paOf_next h,ho]
 show ((kidAt (pq p l i) x).bind _) = none
 rw [hk]
 rfl
theorem partOf_ok (p : Pl) (l : List Int) (hl : l.length < 2000000) : Does Tryz.prog 85 [] [intsD l,pD p] (paD (paV 8 p l)) []:=by
 by_cases h8 : l.length ≤ 8
 ·suffices hh : ∀ r : D,(∀ q,paOf p l = some q → r = .tup [pD q,Bo true]) → (paOf p l = none → r = paD none) → Does Tryz.prog 85 [] [intsD l,pD p] r [] from by
   have hv : paV 8 p l = paOf p l:=if_pos h8
   rw [hv]
   exact hh _ (fun q h=>by rw [h]; rfl) (fun h=>by rw [h])
  intro r hy hn
  refine Bg c_Z20 mixed (go1 @intsD.eq_1 ?_)
  refine dw_for (c:=2) (l:=fun i=>[(3,.ref 1000000 0),(4,.ref 1000001 0),(5,Bo false),(12,intsD l),(13,I l.length),(14,I i),(1000000,.obj [I (pq p l i).k,I (pq p l i).t,.sl 5 ((pq p l i).es.map eD),intsD (pq p l i).cs,.sl 5 ((pq p l i).ks.map pD)]),(1000001,.obj [I 0,I 0,.nul,.nul,.nul])]) l.length (fun i=>paOf p (l.take i) = some (pq p l i)) 0 rfl (Wk.list [2000003,2000004] rfl rfl ?_) (fun i hi hJ=>?_) (Nat.zero_le _)
  ·repeat' (first|(conv in hold _=>simp (disch:=omega) only [go_sem,intsD])|exact trivial|exact Sub.refl _|omega)
   (repeat' apply And.intro) <;> rfl
  ·rcases at_or_end hi with ⟨x,hx,hlt⟩ | rfl
   ·cases hk : kidAt (pq p l i) x with
    | none=>
     have hno:=kidAt_none hk
     rw [hn (paOf_stop hx hJ hk)]
     repeat' (first|with_reducible refine acc_none ?_ | (conv in hold _=>simp (disch:=omega) only [go_sem,intsD,List.getElem?_map,hx,Option.map_some,List.length_map,paD_pur])|refine Stp.go ?_|(with_reducible first|refine it_pos rfl ?_|refine it_neg (by decide) ?_|refine st_nil rfl ?_|refine s_op ?_ ?_|exact trivial)|((with_reducible first|refine dw_reg0 ?_|refine dw_regB ?_);(conv=>arg 3;whnf))|(refine Spl.go (fun hq he=>?_) (fun hq he=>?_)<;>first|(exfalso;clear hq;omega)|((try first|(conv=>arg 8;simp only [hq])|(conv=>arg 4;simp only [hq]));clear hq))|((with_reducible first|refine c_split (fun hq=>?_) (fun hq=>?_)|refine q_split (fun hq=>?_) (fun hq=>?_))<;>(try first|(conv=>arg 8;simp only [hq])|(conv=>arg 4;simp only [hq])))|(with_reducible refine fin_0 ?_ (by first|rfl|(conv=>lhs;simp only [go_sem,intsD,List.getElem?_map,hx,Option.map_some,List.length_map,paD_pur])) ?_)|exact Sub.refl _|omega)
     all_goals exact zP_sub
    | some q=>
     obtain ⟨k0,k1,k2⟩:=kidAt_some hk
     obtain ⟨n1,n2⟩:=pq_next hx hJ hk
     refine go1 (cj3 @intsD.eq_1 @hx @k2) ?_
     refine ⟨hlt,n1,Wk.list [1000000,1000001] rfl rfl ?_⟩
     exact Ag (cj2 @n2 @intsD.eq_1)
   ·have e1 : l.take l.length = l:=List.take_length
    rw [e1] at hJ
    rw [hy _ hJ]
    exact go0 @intsD.eq_1
 ·have hv : paV 8 p l = none:=if_neg h8
  rw [hv]
  refine Bg c_Z20 mixed (go1 (cj2 @intsD.eq_1 @paD_pur) ?_)
  exact zP_sub
theorem planAt_ok (p : Pl) (hs : psz p ≤ 700000) (l : List Int) (hl : l.length < 2000000) : Does Tryz.prog 96 [] [pD p,intsD l] (paD (paOf p l)) []:=by
 suffices hh : ∀ r : D,(∀ q,paOf p l = some q → r = .tup [pD q,Bo true]) → (paOf p l = none → r = paD none) → Does Tryz.prog 96 [] [pD p,intsD l] r [] from
  hh _ (fun q h=>by rw [h]; rfl) (fun h=>by rw [h])
 intro r hy hn
 refine Bg c_Z145 mixed (go1 trivial ?_)
 refine dw_for (c:=2) (l:=fun i=>[(1,intsD l),(2,.ref 1000000 0),(4,.ref 1000001 0),(5,Bo false),(6,I i),(1000000,.obj [I (pq p l i).k,I (pq p l i).t,.sl 5 ((pq p l i).es.map eD),intsD (pq p l i).cs,.sl 5 ((pq p l i).ks.map pD)]),(1000001,.obj [I 0,I 0,.nul,.nul,.nul])]) l.length (fun i=>paOf p (l.take i) = some (pq p l i)) 0 rfl (Wk.list [2000002,2000004] rfl rfl ?_) (fun i hi hJ=>?_) (Nat.zero_le _)
 ·repeat' (first|(conv in hold _=>simp (disch:=omega) only [go_sem,intsD])|exact trivial|exact Sub.refl _|omega)
  (repeat' apply And.intro) <;> rfl
 ·rcases at_or_end hi with ⟨x,hx,hlt⟩ | rfl
  ·have hir:=inRangeP_ok x 0 (((pq p l i).ks.length : Int) - 1)
   have hkl:=pszL_len (pq p l i).ks
   have hpz:=paOf_sz _ _ _ hJ
   have hpe:=psz_eq (pq p l i)
   cases hk : kidAt (pq p l i) x with
   | none=>
    have hno:=kidAt_none hk
    rw [decide_eq_false (by omega)] at hir
    rw [hn (paOf_stop hx hJ hk)]
    refine go1 (cj3 @intsD.eq_1 @hx @paD_pur) ?_
    refine Uc (cj3 @intsD.eq_1 @hx @paD_pur) (hir) (go1 (cj3 @intsD.eq_1 @hx @paD_pur) ?_)
    all_goals exact zP_sub
   | some q=>
    obtain ⟨k0,k1,k2⟩:=kidAt_some hk
    obtain ⟨n1,n2⟩:=pq_next hx hJ hk
    rw [decide_eq_true (by omega)] at hir
    refine go1 (cj3 @intsD.eq_1 @hx @k2) ?_
    refine Uc (cj3 @intsD.eq_1 @hx @k2) (hir) (go1 (cj3 @intsD.eq_1 @hx @k2) ?_)
    refine ⟨hlt,n1,Wk.list [1000000,1000001] rfl rfl ?_⟩
    exact Ag (cj2 @n2 @intsD.eq_1)
  ·have e1 : l.take l.length = l:=List.take_length
   rw [e1] at hJ
   rw [hy _ hJ]
   exact go0 @intsD.eq_1
end Go.Proofs.YtgpdmgaemhelgaaGreat
