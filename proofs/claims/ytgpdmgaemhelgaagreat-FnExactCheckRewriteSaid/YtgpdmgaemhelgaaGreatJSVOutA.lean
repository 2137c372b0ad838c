/-
  What the program makes of a plan's kids' widths. No condition.
-/
import Derived.Test.YtgpdmgaemhelgaaGreatJSDcVWid
import Derived.Test.YtgpdmgaemhelgaaGreatKSDca
import Derived.Test.YtgpdmgaemhelgaaGreatJSVWidA
import Derived.Test.YtgpdmgaemhelgaaGreatJSVGo
import Derived.Test.YtgpdmgaemhelgaaGreatKSDcb
import Derived.Test.YtgpdmgaemhelgaaGreatJSVEvS
import Derived.Test.YtgpdmgaemhelgaaGreatJSVColsC
import Derived.Test.YtgpdmgaemhelgaaGreatJSVEvI
set_option maxHeartbeats 4000000
set_option maxRecDepth 100000
namespace Go.Proofs.YtgpdmgaemhelgaaGreat
open Go.RowKit
theorem sum_next {ns : List Int} {i : Nat} {x : Int} (h : ns[i]? = some x) : (ns.take (i + 1)).sum = (ns.take i).sum + x:=by
 rw [take_next h,List.sum_append,List.sum_cons,List.sum_nil]
 omega
theorem sumOf_ok (ns : List Int) (hl : ns.length ≤ 1000) (hn : ∀ (j : Nat) (x : Int),ns[j]? = some x → 0 ≤ x ∧ x ≤ 6) : Does Tryz.prog 147 [] [intsD ns] (I ns.sum) []:=by
 refine Bg c_Z155 mixed (go1 trivial ?_)
 refine dw_for (c:=0) (l:=fun i=>[(3,I (ns.take i).sum),(6,intsD ns),(7,I ns.length),(8,I i)]) ns.length (fun i=>0 ≤ (ns.take i).sum ∧ (ns.take i).sum ≤ 6 * i) 0 (by simp) (Wk.list [] rfl rfl ?_) (fun i hi hJ=>?_) (Nat.zero_le _)
 ·repeat' (first|(conv in hold _=>simp (disch:=omega) only [go_sem])|exact trivial|exact Sub.refl _|omega)
  exact ⟨rfl,rfl⟩
 ·rcases at_or_end hi with ⟨x,hx,hlt⟩ | rfl
  ·have h1:=hn i x hx
   have h2:=sum_next hx
   refine go1 @hx ?_
   refine ⟨hlt,by omega,Wk.list [] rfl rfl ?_⟩
   repeat' (first|(conv in hold _=>simp (disch:=omega) only [go_sem,h2])|exact trivial|exact Sub.refl _|omega)
  ·repeat' (first|with_reducible refine acc_none ?_ | (conv in hold _=>simp (disch:=omega) only [go_sem,List.take_length])|refine Stp.go ?_|(with_reducible first|refine it_pos rfl ?_|refine it_neg (by decide) ?_|refine st_nil rfl ?_|refine s_op ?_ ?_|exact trivial)|((with_reducible first|refine dw_reg0 ?_|refine dw_regB ?_);(conv=>arg 3;whnf))|(refine Spl.go (fun hq he=>?_) (fun hq he=>?_)<;>first|(exfalso;clear hq;omega)|((try first|(conv=>arg 8;simp only [hq])|(conv=>arg 4;simp only [hq]));clear hq))|((with_reducible first|refine c_split (fun hq=>?_) (fun hq=>?_)|refine q_split (fun hq=>?_) (fun hq=>?_))<;>(try first|(conv=>arg 8;simp only [hq])|(conv=>arg 4;simp only [hq])))|(with_reducible refine fin_0 ?_ (by first|rfl|(conv=>lhs;simp only [go_sem,List.take_length])) ?_)|exact Sub.refl _|omega)
def fitsV (p : Pl) (ns : List Int) : Prop:=if p.k = 6 then ns.getD 0 0 = ns.getD 1 0 else if p.k = 8 then p.cs.length < 6 ∧ colsOk p.cs (ns.getD 0 0) else ∀ (j : Nat) (e : E),p.es[j]? = some e → (1 ≤ ns.sum ∧ ns.sum ≤ 6) ∧ eOk e ns.sum 8
noncomputable instance fitsDec (p : Pl) (ns : List Int) : Decidable (fitsV p ns):=Classical.propDecidable _
theorem get_at {ns : List Int} {i : Nat} (h : i < ns.length) : ns[i]? = some (ns.getD i 0):=by
 rw [List.getD_eq_getElem?_getD,List.getElem?_eq_getElem h,Option.getD_some]
theorem get_ex {ns : List Int} {i : Nat} (h : i < ns.length) : ∃ n,ns[i]? = some n ∧ ns.getD i 0 = n:=⟨_,get_at h,rfl⟩
theorem fitsKids_ok (p : Pl) (ns : List Int) (hl : ns.length ≤ 1000) (hc : p.cs.length ≤ 1048576) (he : p.es.length ≤ 1048576) (hn : ∀ (j : Nat) (x : Int),ns[j]? = some x → 0 ≤ x ∧ x ≤ 6) (h0 : 0 < ns.length) (h1 : p.k = 6 → 1 < ns.length) : Does Tryz.prog 101 [] [pD p,intsD ns] (Bo (decide (fitsV p ns))) []:=by
 obtain ⟨n0,e0,g0⟩:=get_ex h0
 by_cases h6 : p.k = 6
 ·obtain ⟨n1,e1,g1⟩:=get_ex (h1 h6)
  rw [show decide (fitsV p ns) = decide (n0 = n1) from decide_eq_decide.2 (by unfold fitsV; rw [if_pos h6,g0,g1])]
  exact Bg c_Z99 mixed (go0 (cj2 @e0 @e1))
 ·by_cases h8 : p.k = 8
  ·rw [show decide (fitsV p ns) = decide (p.cs.length < 6 ∧ colsOk p.cs n0) from decide_eq_decide.2 (by unfold fitsV; rw [if_neg h6,if_pos h8,g0])]
   have hv:=validColumns_ok p.cs n0 hc
   refine Bg c_Z99 mixed (go1 @e0 ?_)
   exact Uc trivial (hv) (go0 trivial)
  ·have hs:=sumOf_ok ns hl hn
   have hfv : fitsV p ns ↔ ∀ (j : Nat) (e : E),p.es[j]? = some e → (1 ≤ ns.sum ∧ ns.sum ≤ 6) ∧ eOk e ns.sum 8:=by unfold fitsV; rw [if_neg h6,if_neg h8]
   refine Bg c_Z99 mixed (go1 trivial ?_)
   refine dw_for (c:=0) (l:=fun i=>[(1,intsD ns),(27,.sl 5 (p.es.map eD)),(28,I p.es.length),(29,I i)]) p.es.length (fun i=>∀ (j : Nat) (e : E),j < i → p.es[j]? = some e → (1 ≤ ns.sum ∧ ns.sum ≤ 6) ∧ eOk e ns.sum 8) 0 (fun j w hj=>by omega) (Wk.list [] rfl rfl ?_) (fun i hi hJ=>?_) (Nat.zero_le _)
   ·repeat' (first|(conv in hold _=>simp (disch:=omega) only [go_sem])|exact trivial|exact Sub.refl _|omega)
    exact rfl
   ·rcases at_or_end hi with ⟨x,hx,hlt⟩ | rfl
    ·have hr:=implValidExpr_ok x ns.sum
     by_cases hv : (1 ≤ ns.sum ∧ ns.sum ≤ 6) ∧ eOk x ns.sum 8
     ·rw [decide_eq_true hv] at hr
      refine go1 @hx ?_
      refine Uc trivial (hs) (go1 trivial ?_)
      refine Uc trivial (hr) (go1 trivial ?_)
      refine ⟨hlt,upto1 (P:=fun _ e=>(1 ≤ ns.sum ∧ ns.sum ≤ 6) ∧ eOk e ns.sum 8) hx hv hJ,Wk.list [] rfl rfl ?_⟩
      repeat' (first|(conv in hold _=>simp (disch:=omega) only [go_sem])|exact trivial|exact Sub.refl _|omega)
     ·rw [decide_eq_false hv] at hr
      refine go1 @hx ?_
      refine Uc trivial (hs) (go1 trivial ?_)
      refine Uc trivial (hr) (go1 trivial ?_)
      exact sub_f (fun h=>hv (hfv.1 h i x hx))
    ·refine go1 trivial ?_
     exact sub_iff ⟨fun _=>hfv.2 (upto0 (P:=fun _ e=>(1 ≤ ns.sum ∧ ns.sum ≤ 6) ∧ eOk e ns.sum 8) hJ),fun _=>rfl⟩
def fromV (p : Pl) (ns : List Int) : Int:=if p.k = 3 then p.es.length else if p.k = 4 ∨ p.k = 5 then ns.sum else if p.k = 8 then p.cs.length + 1 else ns.getD 0 0
theorem widthFrom_ok (p : Pl) (ns : List Int) (hl : ns.length ≤ 1000) (hc : p.cs.length ≤ 1048576) (hn : ∀ (j : Nat) (x : Int),ns[j]? = some x → 0 ≤ x ∧ x ≤ 6) (h0 : 0 < ns.length) : Does Tryz.prog 102 [] [pD p,intsD ns] (I (fromV p ns)) []:=by
 obtain ⟨n0,e0,g0⟩:=get_ex h0
 have hs:=sumOf_ok ns hl hn
 unfold fromV
 rw [g0]
 by_cases h3 : p.k = 3
 ·rw [if_pos h3]
  exact Bg c_Z87 mixed (go0 trivial)
 ·rw [if_neg h3]
  by_cases h4 : p.k = 4 ∨ p.k = 5
  ·rw [if_pos h4]
   refine does0 c_Z87 mixed (Nat.le_of_ble_eq_true rfl) ?_
   conv=>arg 3; whnf
   repeat' (first|with_reducible refine acc_none ?_ | (conv in hold _=>simp (disch:=omega) only [go_sem])|refine Stp.go ?_|(with_reducible first|refine it_pos rfl ?_|refine it_neg (by decide) ?_|refine st_nil rfl ?_|refine s_op ?_ ?_|exact trivial)|((with_reducible first|refine dw_reg0 ?_|refine dw_regB ?_);(conv=>arg 3;whnf))|(refine Spl.go (fun hq he=>?_) (fun hq he=>?_)<;>first|(exfalso;clear hq;omega)|((try first|(conv=>arg 8;simp only [hq])|(conv=>arg 4;simp only [hq]));clear hq))|((with_reducible first|refine c_split (fun hq=>?_) (fun hq=>?_)|refine q_split (fun hq=>?_) (fun hq=>?_))<;>(try first|(conv=>arg 8;simp only [hq])|(conv=>arg 4;simp only [hq])))|(with_reducible refine fin_0 ?_ (by first|rfl|(conv=>lhs;simp only [go_sem])) ?_)|exact Sub.refl _|omega)
   all_goals
    exact Uc trivial (hs) (go0 trivial)
  ·rw [if_neg h4]
   by_cases h8 : p.k = 8
   ·rw [if_pos h8]
    exact Bg c_Z87 mixed (go0 trivial)
   ·rw [if_neg h8]
    exact Bg c_Z87 mixed (go0 @e0)
end Go.Proofs.YtgpdmgaemhelgaaGreat
set_option maxHeartbeats 4000000
set_option maxRecDepth 100000
namespace Go.Proofs.YtgpdmgaemhelgaaGreat
open Go.RowKit
def stV (v : V) : Int:=if v.b = true then 4 else if v.n = 0 then 1 else 2
theorem stateOf_spec (v : V) : Does Tryz.prog 202 [] [vD v] (I (stV v)) []:=by
 unfold stV
 by_cases hb : v.b = true
 ·rw [if_pos hb]
  exact Bg c_Z135 mixed (go0 @hb)
 ·rw [if_neg hb]
  rw [Bool.not_eq_true] at hb
  by_cases hn : v.n = 0
  ·rw [if_pos hn]
   exact Bg c_Z135 mixed (go0 @hb)
  ·rw [if_neg hn]
   exact Bg c_Z135 mixed (go0 @hb)
theorem stateOf_impl (v : V) : Does Tryz.prog 193 [] [vD v] (I (stV v)) []:=by
 have h:=truth_of_ok v
 unfold itr at h
 unfold stV
 by_cases hb : v.b = true
 ·rw [if_pos hb] at h ⊢
  refine Bg c_Z118 mixed (go1 trivial ?_)
  exact Uc trivial (h) (go0 trivial)
 ·rw [if_neg hb] at h ⊢
  by_cases hn : v.n = 0
  ·rw [if_pos hn] at h ⊢
   refine Bg c_Z118 mixed (go1 trivial ?_)
   exact Uc trivial (h) (go0 trivial)
  ·rw [if_neg hn] at h ⊢
   refine Bg c_Z118 mixed (go1 trivial ?_)
   exact Uc trivial (h) (go0 trivial)
def valS (x : Int) : V:=if x = 4 then ⟨true,0⟩ else if x = 2 then ⟨false,1⟩ else ⟨false,0⟩
theorem valueOf_ok (x : Int) : Does Tryz.prog 210 [] [I x] (vD (valS x)) []:=by
 unfold valS
 by_cases h4 : x = 4
 ·rw [if_pos h4]
  exact Bg c_Z136 mixed (go0 trivial)
 ·rw [if_neg h4]
  by_cases h2 : x = 2
  ·rw [if_pos h2]
   exact Bg c_Z136 mixed (go0 trivial)
  ·rw [if_neg h2]
   exact Bg c_Z136 mixed (go0 trivial)
def sT (t : Int) : Int:=stV (itv t)
def tt : List Int:=[0,1,2]
def tsel (a t : Int) : Bool:=intBit .and .i64 a (sT t) != 0
def tl (a : Int) : List Int:=tt.filter (tsel a)
theorem tl_len (a : Int) : (tl a).length ≤ 3:=List.length_filter_le ..
theorem truthsOf_ok (a : Int) : Does Tryz.prog 206 [] [I a] (.sl 1 ((tl a).map I)) []:=by
 refine Bg c_Z106 mixed (go1 trivial ?_)
 refine dw_for (c:=1) (l:=fun i=>[(0,I a),(3,.own 1000000 1 ((tt.take i).filter (tsel a)).length),(6,.sl 1 (tt.map I)),(7,I 3),(8,I i),(1000000,.row 1 (((tt.take i).filter (tsel a)).map I))]) 3 (fun _=>True) 0 trivial ((wk_row 3 2000021 1 (by decide) (by decide) rfl rfl).trans (Wk.list [2000021] rfl rfl ?_)) (fun i hi _=>?_) (Nat.zero_le _)
 ·repeat' (first|(conv in hold _=>simp (disch:=omega) only [go_sem])|exact trivial|exact Sub.refl _|omega)
  exact ⟨rfl,rfl,rfl,rfl,rfl⟩
 ·by_cases hil : i < 3
  ·obtain ⟨x,hx⟩ : ∃ x,tt[i]? = some x:=⟨_,List.getElem?_eq_getElem (show i < tt.length from hil)⟩
   have hv:=truth_value_ok x
   have hs:=stateOf_impl (itv x)
   have hnx:=take_next hx
   have hfl : ((tt.take i).filter (tsel a)).length ≤ 3:=Nat.le_trans (List.length_filter_le ..) (by rw [List.length_take]; exact Nat.min_le_right ..)
   have htl : tt.length = 3:=rfl
   refine go1 @hx ?_
   refine Uc trivial (hv) (go1 trivial ?_)
   refine c_doesE (hs) ?_ ?_ ?_
   ·((try (conv=>rhs;simp (disch:=omega) only [go_sem])); try rfl)
   ·first|rfl|(conv=>lhs;simp only [go_sem])
   repeat' (first|with_reducible refine acc_none ?_ | (conv in hold _=>simp (disch:=omega) only [go_sem])|refine Stp.go ?_|(with_reducible first|refine it_pos rfl ?_|refine it_neg (by decide) ?_|refine st_nil rfl ?_|refine s_op ?_ ?_|exact trivial)|((with_reducible first|refine dw_reg0 ?_|refine dw_regB ?_);(conv=>arg 3;whnf))|(refine Spl.go (fun hq he=>?_) (fun hq he=>?_)<;>first|(exfalso;clear hq;omega)|((try first|(conv=>arg 8;simp only [hq])|(conv=>arg 4;simp only [hq]));clear hq))|((with_reducible first|refine c_split (fun hq=>?_) (fun hq=>?_)|refine q_split (fun hq=>?_) (fun hq=>?_))<;>(try first|(conv=>arg 8;simp only [hq])|(conv=>arg 4;simp only [hq])))|(with_reducible refine fin_0 ?_ (by first|rfl|(conv=>lhs;simp only [go_sem])) ?_)|exact Sub.refl _|omega)
   ·have hsel : tsel a x = true:=bne_iff_ne.2 (by assumption)
    have hfn : (tt.take (i + 1)).filter (tsel a) = (tt.take i).filter (tsel a) ++ [x]:=by
     rw [hnx,List.filter_append,List.filter_cons,if_pos hsel]
     rfl
    refine ⟨hil,trivial,Wk.list [2000021] rfl rfl ?_⟩
    repeat' (first|(conv in hold _=>simp (disch:=omega) only [go_sem])|exact trivial|exact Sub.refl _|omega)
    rw [hfn,List.length_append,List.map_append]
    exact ⟨rfl,rfl⟩
   ·have hsel : ¬ tsel a x = true:=fun h=>bne_iff_ne.1 h (by assumption)
    have hfn : (tt.take (i + 1)).filter (tsel a) = (tt.take i).filter (tsel a):=by
     rw [hnx,List.filter_append,List.filter_cons,if_neg hsel]
     simp
    refine ⟨hil,trivial,Wk.list [1000000] rfl rfl ?_⟩
    repeat' (first|(conv in hold _=>simp (disch:=omega) only [go_sem])|exact trivial|exact Sub.refl _|omega)
    rw [hfn]
    exact ⟨rfl,rfl⟩
  ·obtain rfl : i = 3:=by omega
   have e1 : tt.take 3 = tt:=rfl
   have e2 : ((tl a).map I).take (tl a).length = (tl a).map I:=List.take_of_length_le (by rw [List.length_map]; exact Nat.le_refl _)
   have e3 : tt.filter (tsel a) = tl a:=rfl
   refine go1F (cj2 @e1 @e3) ?_
   refine fin_wk (wk_frz 2 1000000 (by decide) (by decide) rfl ?_) ?_
   rotate_left
   (conv in hold _=>simp (disch:=omega) only [go_sem,e2,Nat.le_refl])
   ·refine fin_L [] ?_ ?_ rfl ?_
    repeat' (first|(conv in hold _=>simp (disch:=omega) only [go_sem])|exact trivial|exact Sub.refl _|omega)
   ·exact ints_pur _
def neg (a : Int) : Int:=(tl a).foldl (fun r t=>intBit .or .i64 r (sT (2 - t))) 0
theorem foldl_next {α β : Type} {f : β → α → β} {z : β} {l : List α} {i : Nat} {x : α} (h : l[i]? = some x) : (l.take (i + 1)).foldl f z = f ((l.take i).foldl f z) x:=by
 rw [take_next h,List.foldl_append]
 rfl
theorem tl_mem {a t : Int} (h : t ∈ tl a) : 0 ≤ t ∧ t ≤ 2:=by
 have:=(List.mem_filter.1 h).1
 simp [tt] at this
 omega
theorem negatedStates_ok (a : Int) : Does Tryz.prog 194 [] [I a] (I (neg a)) []:=by
 have h:=truthsOf_ok a
 have hl:=tl_len a
 refine Bg c_Z32 mixed (go1 trivial ?_)
 refine Uc trivial (h) (go1 trivial ?_)
 refine dw_for (c:=0) (l:=fun i=>[(3,I (((tl a).take i).foldl (fun r t=>intBit .or .i64 r (sT (2 - t))) 0)),(7,.sl 1 ((tl a).map I)),(8,I (tl a).length),(9,I i)]) (tl a).length (fun _=>True) 0 trivial (Wk.list [] rfl rfl ?_) (fun i hi _=>?_) (Nat.zero_le _)
 ·repeat' (first|(conv in hold _=>simp (disch:=omega) only [go_sem])|exact trivial|exact Sub.refl _|omega)
  exact ⟨rfl,rfl⟩
 ·rcases at_or_end hi with ⟨x,hx,hlt⟩ | rfl
  ·have hn:=truth_not_ok x (tl_mem (List.mem_of_getElem? hx))
   have hv:=truth_value_ok (2 - x)
   have hs:=stateOf_impl (itv (2 - x))
   have hnx:=foldl_next (f:=fun r t=>intBit .or .i64 r (sT (2 - t))) (z:=(0 : Int)) hx
   refine go1 @hx ?_
   refine Uc trivial (hn) (go1 trivial ?_)
   refine Uc trivial (hv) (go1 trivial ?_)
   refine Uc trivial (hs) (go1 trivial ?_)
   refine ⟨hlt,trivial,Wk.list [] rfl rfl ?_⟩
   repeat' (first|(conv in hold _=>simp (disch:=omega) only [go_sem,hnx])|exact trivial|exact Sub.refl _|omega)
   rfl
  ·have e1 : (tl a).take (tl a).length = tl a:=List.take_length
   exact go0 @e1
end Go.Proofs.YtgpdmgaemhelgaaGreat
