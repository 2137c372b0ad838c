/-
  The program's truths of values. No condition.
-/
import Derived.Test.YtgpdmgaemhelgaaGreatKSDca
import Derived.Test.YtgpdmgaemhelgaaGreatJSVEvI
import Derived.Test.YtgpdmgaemhelgaaGreatJSVCols
import Derived.Test.YtgpdmgaemhelgaaGreatKSDcb
import Derived.Test.YtgpdmgaemhelgaaGreatJSVYld
import Derived.Test.YtgpdmgaemhelgaaGreatKSDcc
import Derived.Test.YtgpdmgaemhelgaaGreatKSVDrawE
import Derived.Test.YtgpdmgaemhelgaaGreatJSVCpE
import Derived.Test.YtgpdmgaemhelgaaGreatJSVBox
import Derived.Test.YtgpdmgaemhelgaaGreatKSDcd
set_option maxHeartbeats 4000000
set_option maxRecDepth 100000
set_option linter.unusedVariables false
set_option linter.unusedSimpArgs false
namespace Go.Proofs.YtgpdmgaemhelgaaGreat
open Go.RowKit
def itr (v : V) : Int:=if v.b = true then 1 else if v.n = 0 then 0 else 2
def itv (n : Int) : V:=if n = 0 then ⟨false,0⟩ else if n = 2 then ⟨false,1⟩ else ⟨true,0⟩
theorem truth_of_ok (v : V) : Does Tryz.prog 205 [] [vD v] (I (itr v)) []:=by
 unfold itr
 refine does0 c_Z49 mixed (Nat.le_of_ble_eq_true rfl) ?_
 conv=>arg 3; whnf
 repeat' (first|with_reducible refine acc_none ?_ | (conv in hold _=>simp (disch:=omega) only [go_sem])|refine Stp.go ?_|(with_reducible first|refine it_pos rfl ?_|refine it_neg (by decide) ?_|refine st_nil rfl ?_|refine s_op ?_ ?_|exact trivial)|((with_reducible first|refine dw_reg0 ?_|refine dw_regB ?_);(conv=>arg 3;whnf))|(refine Spl.go (fun hq he=>?_) (fun hq he=>?_)<;>first|(exfalso;clear hq;omega)|((try first|(conv=>arg 8;simp only [hq])|(conv=>arg 4;simp only [hq]));clear hq))|((with_reducible first|refine c_split (fun hq=>?_) (fun hq=>?_)|refine q_split (fun hq=>?_) (fun hq=>?_))<;>(try first|(conv=>arg 8;simp only [hq])|(conv=>arg 4;simp only [hq])))|(with_reducible refine fin_0 ?_ (by first|rfl|(conv=>lhs;simp only [go_sem])) ?_)|exact Sub.refl _|omega)
 ·rw [if_pos hq]; exact Sub.refl _
 ·rw [if_neg (by rw [hq]; decide),if_pos he]; exact Sub.refl _
 ·rw [if_neg (by rw [hq]; decide),if_neg he]; exact Sub.refl _
end Go.Proofs.YtgpdmgaemhelgaaGreat
set_option maxHeartbeats 4000000
set_option maxRecDepth 100000
namespace Go.Proofs.YtgpdmgaemhelgaaGreat
open Go.RowKit
def marked (u : Nat → Bool) (n : Nat) : List Nat:=(List.range n).filter u
def colsL (u : Nat → Bool) (n : Nat) : List D:=(marked u n).map fun j : Nat=>I (j : Int)
theorem marked_t {u : Nat → Bool} {n : Nat} (h : u n = true) : marked u (n + 1) = marked u n ++ [n]:=by
 unfold marked
 rw [List.range_succ,List.filter_append,List.filter_cons,if_pos h]
 rfl
theorem marked_f {u : Nat → Bool} {n : Nat} (h : u n = false) : marked u (n + 1) = marked u n:=by
 unfold marked
 rw [List.range_succ,List.filter_append,List.filter_cons,if_neg (by rw [h]; decide)]
 simp
theorem colsL_t {u : Nat → Bool} {n : Nat} (h : u n = true) : colsL u (n + 1) = colsL u n ++ [I n]:=by unfold colsL; rw [marked_t h,List.map_append]; rfl
theorem colsL_f {u : Nat → Bool} {n : Nat} (h : u n = false) : colsL u (n + 1) = colsL u n:=by unfold colsL; rw [marked_f h]
theorem marked_len (u : Nat → Bool) (n : Nat) : (marked u n).length ≤ n:=by
 unfold marked
 exact Nat.le_trans (List.length_filter_le _ _) (by rw [List.length_range]; exact Nat.le_refl _)
theorem colsL_len (u : Nat → Bool) (n : Nat) : (colsL u n).length ≤ n:=by unfold colsL; rw [List.length_map]; exact marked_len u n
theorem nats_pur : ∀ l : List Nat,D.purL (l.map fun j : Nat=>I (j : Int)) = true
 | []=>rfl
 | j :: l=>by rw [List.map_cons,D.purL,nats_pur l]; rfl
theorem colsL_pur (u : Nat → Bool) (n : Nat) : D.purL (colsL u n) = true:=nats_pur _
theorem colsL_ren (L : List Nat) (u : Nat → Bool) (n : Nat) : D.renL L (colsL u n) = colsL u n:=ren_pure.renL_pure L _ (colsL_pur u n)
attribute [go_sem] colsL_ren colsL_pur
theorem ColumnsOf_impl (e : E) (h : eOk e 6 8) : Does Tryz.prog 162 [] [eD e] (.sl 1 (colsL (occ e) 6)) []:=by
 have hve:=implValidExpr_ok e 6
 rw [decide_eq_true ⟨by decide,h⟩] at hve
 have huc:=usedColumns_ok e 8 h
 refine Bg c_Z87 mixed (go1 trivial ?_)
 refine Uc trivial (hve) (go1 trivial ?_)
 refine Uc trivial (huc) (go1 trivial ?_)
 refine dw_for (c:=1) (l:=fun i=>[(3,.own 1000000 1 (colsL (occ e) i).length),(10,.agg (useL (occ e))),(11,I i),(1000000,.row 1 (colsL (occ e) i))]) 6 (fun _=>True) 0 trivial ((wk_row 3 2000019 1 (by decide) (by decide) rfl rfl).trans (Wk.list [2000019] rfl rfl ?_)) (fun i hi _=>?_) (Nat.zero_le _)
 ·repeat' (first|(conv in hold _=>simp (disch:=omega) only [go_sem])|exact trivial|exact Sub.refl _|omega)
  exact ⟨rfl,rfl,rfl⟩
 ·have hlen:=colsL_len (occ e) i
  by_cases h6 : i < 6
  ·repeat' (first|with_reducible refine acc_none ?_ | (conv in hold _=>simp (disch:=omega) only [go_sem])|refine Stp.go ?_|(with_reducible first|refine it_pos rfl ?_|refine it_neg (by decide) ?_|refine st_nil rfl ?_|refine s_op ?_ ?_|exact trivial)|((with_reducible first|refine dw_reg0 ?_|refine dw_regB ?_);(conv=>arg 3;whnf))|(refine Spl.go (fun hq he=>?_) (fun hq he=>?_)<;>first|(exfalso;clear hq;omega)|((try first|(conv=>arg 8;simp only [hq])|(conv=>arg 4;simp only [hq]));clear hq))|((with_reducible first|refine c_split (fun hq=>?_) (fun hq=>?_)|refine q_split (fun hq=>?_) (fun hq=>?_))<;>(try first|(conv=>arg 8;simp only [hq])|(conv=>arg 4;simp only [hq])))|(with_reducible refine fin_0 ?_ (by first|rfl|(conv=>lhs;simp only [go_sem])) ?_)|exact Sub.refl _|omega)
   ·refine ⟨h6,trivial,Wk.list [2000019] rfl rfl ?_⟩
    repeat' (first|(conv in hold _=>simp (disch:=omega) only [go_sem,List.take_length])|exact trivial|exact Sub.refl _|omega)
    rw [colsL_t hq,List.length_append]
    exact ⟨rfl,rfl⟩
   ·refine ⟨h6,trivial,Wk.list [1000000] rfl rfl ?_⟩
    repeat' (first|(conv in hold _=>simp (disch:=omega) only [go_sem])|exact trivial|exact Sub.refl _|omega)
    rw [colsL_f hq]
    exact ⟨rfl,rfl⟩
  ·obtain rfl : i = 6:=by omega
   refine go1F trivial ?_
   refine fin_wk (wk_frz 2 1000000 (by decide) (by decide) rfl ?_) ?_
   rotate_left
   (conv in hold _=>simp (disch:=omega) only [go_sem,List.take_length])
   ·refine fin_L [] ?_ ?_ rfl ?_
    all_goals exact Ag trivial
   ·exact colsL_pur _ _
end Go.Proofs.YtgpdmgaemhelgaaGreat
set_option maxHeartbeats 4000000
set_option maxRecDepth 100000
namespace Go.Proofs.YtgpdmgaemhelgaaGreat
open Go.RowKit
theorem occL_mem {x : E} {l : List E} {i : Nat} (h : x ∈ l) (ho : occ x i = true) : occL l i = true:=by
 induction l with
 | nil=>cases h
 | cons y l ih=>
  rw [occL,Bool.or_eq_true]
  rcases List.mem_cons.1 h with rfl | h
  ·exact Or.inl ho
  ·exact Or.inr (ih h)
theorem occ_kid {x e : E} {i : Nat} (h : x ∈ e.ks) (ho : occ x i = true) : occ e i = true:=by
 rw [occ_eq,occL_mem h ho,Bool.or_true]
end Go.Proofs.YtgpdmgaemhelgaaGreat
set_option maxHeartbeats 4000000
set_option maxRecDepth 100000
set_option linter.unusedVariables false
set_option linter.unusedSimpArgs false
namespace Go.Proofs.YtgpdmgaemhelgaaGreat
open Go.RowKit
theorem copyPlan_ok : ∀ p : Pl,psz p ≤ 900000 → Does Tryz.prog 64 [] [pD p] (pD p) []:=by
 refine Pl.indA (fun p ih h=>?_)
 rw [psz_eq] at h
 have hle:=eszL_len p.es
 have hlk:=pszL_len p.ks
 have hc:=take_all I p.cs
 refine Bg c_Z123 mixed (go1 trivial ?_)
 refine dw_for (c:=5) (l:=fun i=>[(1,.ref 1000000 0),(2,.ref 1000001 0),(3,.ref 1000002 0),(4,I i),(1000000,.obj [I p.k,I p.t,.sl 5 (p.es.map eD),.sl 1 (p.cs.map I),.sl 5 (p.ks.map pD)]),(1000001,.obj [I 0,I 0,.nul,.nul,.nul]),(1000002,.obj [I p.k,I p.t,.own 1000004 5 i,.own 1000003 1 p.cs.length,.nul]),(1000003,.row 1 (p.cs.map I)),(1000004,.row 5 ((p.es.take i).map eD))]) p.es.length (fun _=>True) 0 trivial ((wk_rowO 2000003 2000099 5 2 (by decide) (by decide) (by decide) rfl rfl rfl).trans (Wk.list [2000001,2000002,2000003,2000013,2000099] rfl rfl ?_)) (fun i hi _=>?_) (Nat.zero_le _)
 ·repeat' (first|(conv in hold _=>simp (disch:=omega) only [go_sem,hc])|exact trivial|exact Sub.refl _|omega)
  exact rfl
 ·have hlt:=take_len (vs:=p.es) (i:=i) (by omega)
  have hmt:=take_map eD (vs:=p.es) (i:=i) (by omega)
  rcases at_or_end hi with ⟨x,hx,hlt1⟩ | rfl
  ·have hix:=copyExpr_ok x (by have:=eszL_mem (List.mem_of_getElem? hx); omega)
   have hnx:=take_next hx
   refine go1 (cj2 @hx @hc) ?_
   refine Uc @hc (hix) (go1 @hc ?_)
   refine ⟨hlt1,trivial,Wk.list [1000000,1000001,1000002,1000003,2000031] rfl rfl ?_⟩
   repeat' (first|(conv in hold _=>simp (disch:=omega) only [go_sem,hc])|exact trivial|exact Sub.refl _|omega)
   rw [hmt,hnx,List.map_append,List.map_cons,List.map_nil,eD_eq x]
  ·have e1 : p.es.take p.es.length = p.es:=List.take_length
   have e2 : (p.es.map eD).take p.es.length = p.es.map eD:=take_all eD p.es
   refine go1 (cj2 @e1 @hc) ?_
   refine dw_for (c:=6) (l:=fun i=>[(1,.ref 1000000 0),(2,.ref 1000001 0),(3,.ref 1000002 0),(5,I i),(1000000,.obj [I p.k,I p.t,.sl 5 (p.es.map eD),.sl 1 (p.cs.map I),.sl 5 (p.ks.map pD)]),(1000001,.obj [I 0,I 0,.nul,.nul,.nul]),(1000002,.obj [I p.k,I p.t,.own 1000004 5 p.es.length,.own 1000003 1 p.cs.length,.own 1000005 5 i]),(1000003,.row 1 (p.cs.map I)),(1000004,.row 5 (p.es.map eD)),(1000005,.row 5 ((p.ks.take i).map pD))]) p.ks.length (fun _=>True) 0 trivial ((wk_rowO 1000002 2000099 5 4 (by decide) (by decide) (by decide) rfl rfl rfl).trans (Wk.list [1000000,1000001,1000002,1000003,1000004,2000099] rfl rfl ?_)) (fun i hi _=>?_) (Nat.zero_le _)
   ·repeat' (first|(conv in hold _=>simp (disch:=omega) only [go_sem,hc,e1,e2])|exact trivial|exact Sub.refl _|omega)
    exact rfl
   ·have hlt:=take_len (vs:=p.ks) (i:=i) (by omega)
    have hmt:=take_map pD (vs:=p.ks) (i:=i) (by omega)
    rcases at_or_end hi with ⟨x,hx,hlt1⟩ | rfl
    ·have hix:=ih x (List.mem_of_getElem? hx) (by have:=pszL_mem (List.mem_of_getElem? hx); omega)
     have hnx:=take_next hx
     refine go1 (cj3 @hx @hc @e2) ?_
     refine Uc (cj2 @hc @e2) (hix) (go1 (cj2 @hc @e2) ?_)
     refine ⟨hlt1,trivial,Wk.list [1000000,1000001,1000002,1000003,1000004,2000049] rfl rfl ?_⟩
     repeat' (first|(conv in hold _=>simp (disch:=omega) only [go_sem,hc,e2])|exact trivial|exact Sub.refl _|omega)
     rw [hmt,hnx,List.map_append,List.map_cons,List.map_nil,pD_eq x]
     rfl
    ·have e3 : p.ks.take p.ks.length = p.ks:=List.take_length
     have e4 : (p.ks.map pD).take p.ks.length = p.ks.map pD:=take_all pD p.ks
     refine go1F (cj3 @e3 @hc @e2) ?_
     refine fin_wk (wk_frzO 1000001 1000003 (by decide) (by decide) rfl (by decide) rfl ?_) ?_
     rotate_left
     (conv in hold _=>simp (disch:=omega) only [go_sem,e2,hc,e4])
     refine fin_wk (wk_frzO 1000001 1000004 (by decide) (by decide) rfl (by decide) rfl ?_) ?_
     rotate_left
     (conv in hold _=>simp (disch:=omega) only [go_sem,e2,hc,e4])
     refine fin_wk (wk_frzO 1000001 1000005 (by decide) (by decide) rfl (by decide) rfl ?_) ?_
     rotate_left
     (conv in hold _=>simp (disch:=omega) only [go_sem,e2,hc,e4])
     all_goals first
      | exact ints_pur _
      | exact exprs_pur _
      | exact plans_pur _
      | skip
     refine fin_L [] ?_ ?_ rfl ?_
     all_goals exact Ag trivial
theorem plS {k t : Int} {es : List E} {cs : List Int} {ks : List Pl} {des dcs dks : D} (h1 : Sub des (.sl 5 (es.map eD))) (h2 : Sub dcs (.sl 1 (cs.map I))) (h3 : Sub dks (.sl 5 (ks.map pD))) : Sub (.agg [I k,I t,des,dcs,dks]) (pD (.mk k t es cs ks)):=by
 rw [pD_eq]
 exact Sub.agg ⟨Sub.refl _,Sub.refl _,h1,h2,h3,trivial⟩
theorem filterOf_ok (e : E) (x : Pl) : Does Tryz.prog 154 [] [eD e,pD x] (pD (.mk 2 0 [e] [] [x])) []:=by
 refine Bg c_Z124 mixed (go1 trivial ?_)
 have h : Sub (.agg [I 2,I 0,.sl 5 [eD e],.nul,.sl 5 [pD x]]) (pD (.mk 2 0 [e] [] [x])):=plS (Sub.refl _) (Sub.nul 1) (Sub.refl _)
 simp only [go_sem] at h
 exact h
end Go.Proofs.YtgpdmgaemhelgaaGreat
set_option maxHeartbeats 4000000
set_option maxRecDepth 100000
set_option linter.unusedVariables false
set_option linter.unusedSimpArgs false
namespace Go.Proofs.YtgpdmgaemhelgaaGreat
open Go.RowKit
def eC (a : E) : List D:=[I a.k,I a.c,Bo a.v.b,I a.v.n,.sl 5 (a.ks.map eD)]
theorem eD_eC (a : E) : eD a = .agg (eC a):=eD_eq a
theorem leafC (c : Int) : SubL [I 1,I c,Bo false,I 0,.nul] (eC (.mk 1 c ⟨false,0⟩ [])):=⟨Sub.refl _,Sub.refl _,Sub.refl _,Sub.refl _,Sub.nul 5,trivial⟩
theorem oneS {cs : List D} {a : E} (h : SubL cs (eC a)) : Sub (.sl 5 [.agg cs]) (.sl 5 [eD a]):=by
 rw [eD_eC]
 refine Sub.sl rfl (fun e he=>by rw [List.mem_singleton.1 he]; rfl) ?_
 have e1 : ∀ l : List D,D.flat [.agg l] = l:=fun l=>by unfold D.flat; rw [List.flatMap_cons,List.flatMap_nil,List.append_nil]; rfl
 rw [e1,e1]
 exact h
theorem twoS {cs ds : List D} {a b : E} (h : SubL cs (eC a)) (h' : SubL ds (eC b)) : Sub (.sl 5 [.agg cs,.agg ds]) (.sl 5 [eD a,eD b]):=by
 rw [eD_eC,eD_eC]
 refine Sub.sl rfl (fun e he=>?_) ?_
 ·rcases List.mem_cons.1 he with rfl | he
  ·rfl
  ·rw [List.mem_singleton.1 he]; rfl
 have e1 : ∀ l k : List D,D.flat [.agg l,.agg k] = l ++ k:=fun l k=>by unfold D.flat; rw [List.flatMap_cons,List.flatMap_cons,List.flatMap_nil,List.append_nil]; rfl
 rw [e1,e1]
 exact h.append h'
theorem oneC {k : Int} {cs : List D} {a : E} (h : SubL cs (eC a)) : SubL [I k,I 0,Bo false,I 0,.sl 5 [.agg cs]] (eC (.mk k 0 ⟨false,0⟩ [a])):=⟨Sub.refl _,Sub.refl _,Sub.refl _,Sub.refl _,oneS h,trivial⟩
theorem twoC {k : Int} {cs ds : List D} {a b : E} (h : SubL cs (eC a)) (h' : SubL ds (eC b)) : SubL [I k,I 0,Bo false,I 0,.sl 5 [.agg cs,.agg ds]] (eC (.mk k 0 ⟨false,0⟩ [a,b])):=⟨Sub.refl _,Sub.refl _,Sub.refl _,Sub.refl _,twoS h h',trivial⟩
def cbd : Nat → Nat
 | 0=>80
 | d + 1=>80 + cbd d
theorem cond_step {bs : List Nat} (hs : Src bs) (n : Int) (hn : n < 1000) (d : Nat) (ih : ∀ (d' p : Nat),d = d' + 1 → p + cbd d' < 700000000 → ∃ (e : E) (q : Nat),Does Tryz.prog 178 [rdD bs p] [.ref 1000000 0,I n,I d'] (eD e) [rdD bs q] ∧ p ≤ q ∧ q ≤ p + cbd d' ∧ esz e ≤ 10 + 4 * d')
  (p : Nat) (hd : d ≤ 2) (hp : p + cbd d < 700000000) : ∃ (e : E) (q : Nat),Does Tryz.prog 178 [rdD bs p] [.ref 1000000 0,I n,I d] (eD e) [rdD bs q] ∧ p ≤ q ∧ q ≤ p + cbd d ∧ esz e ≤ 10 + 4 * d:=by
 have hb : bnd 2 = 65:=by decide
 have hz : szb 2 = 7:=by decide
 have hcb : 80 ≤ cbd d:=by cases d <;> simp [cbd]
 obtain ⟨c,hc,_⟩:=pick_ok hs p (by omega) n (by omega)
 obtain ⟨m,hm,_⟩:=pick_ok hs (p + 1) (by omega) 4 (by omega)
 have hcon:=constant_ok ⟨false,m⟩
 obtain ⟨j,hj,j0,j1,_⟩:=pick_ok hs (p + 2) (by omega) 3 (by omega)
 by_cases hj0 : j = 0
 ·obtain ⟨c',hc',_⟩:=pick_ok hs (p + 3) (by omega) n (by omega)
  obtain ⟨k,hk,k0,k1,_⟩:=pick_ok hs (p + 4) (by omega) 8 (by omega)
  have hk1:=k1 (by omega)
  have hk7 : k = 0 ∨ (k = 2 ∧ ¬ d = 0) ∨ (k = 2 ∧ d = 0) ∨ k = 1 ∨ k = 3 ∨ k = 4 ∨ k = 5 ∨ k = 6 ∨ k = 7:=by omega
  obtain ⟨ee,qe,hxe,hqe0,hqe1⟩:=randomExpr_ok hs n hn 2 (p + 5) (by omega)
  rcases hk7 with rfl | ⟨rfl,hd0⟩ | ⟨rfl,hd0⟩ | rfl | rfl | rfl | rfl | rfl | rfl
  ·refine ⟨ee,qe,?_,by omega,by (try simp only [esz,eszL]); omega⟩
   refine Bk c_Z101 mixed 1 (go1 trivial ?_)
   refine UcR [1000000] trivial (hc) (go1 trivial ?_)
   refine UcR [1000000] trivial (hm) (go1 trivial ?_)
   refine Uc trivial (hcon) (go1 trivial ?_)
   refine UcR [1000000] trivial (hj) (go1 trivial ?_)
   refine UcR [1000000] trivial (hc') (go1 trivial ?_)
   refine UcR [1000000] trivial (hk) (go1 trivial ?_)
   refine UcR [1000000] trivial (hxe) (go1 trivial ?_)
   refine fin_L [1000000] ?_ ?_ rfl ?_
   all_goals exact Ag trivial
  ·obtain ⟨d',rfl⟩ : ∃ d',d = d' + 1:=⟨d - 1,by omega⟩
   have hcd : cbd (d' + 1) = 80 + cbd d':=rfl
   obtain ⟨e2,q2,hx2,hq0,hq1⟩:=ih d' (p + 5) rfl (by omega)
   refine ⟨.mk 8 0 ⟨false,0⟩ [e2,.mk 6 0 ⟨false,0⟩ [(.mk 1 c ⟨false,0⟩ []),(.mk 1 c' ⟨false,0⟩ [])]],q2,?_,by omega,by (try simp only [esz,eszL]); omega⟩
   refine Bk c_Z101 mixed 1 (go1 trivial ?_)
   refine UcR [1000000] trivial (hc) (go1 trivial ?_)
   refine UcR [1000000] trivial (hm) (go1 trivial ?_)
   refine Uc trivial (hcon) (go1 trivial ?_)
   refine UcR [1000000] trivial (hj) (go1 trivial ?_)
   refine UcR [1000000] trivial (hc') (go1 trivial ?_)
   refine UcR [1000000] trivial (hk) (go1 trivial ?_)
   refine UcR [1000000] trivial (hx2) (go1 trivial ?_)
   refine fin_L [1000000] ?_ ?_ rfl ?_
   repeat' (first|(conv in hold _=>simp (disch:=omega) only [go_sem])|exact trivial|exact Sub.refl _|omega)
   have h:=Sub.agg (twoC (k:=8) (SubL.refl (eC e2)) (twoC (k:=6) (leafC c) (leafC c')))
   simp only [eC,eD_eq,E.k_mk,E.c_mk,E.v_mk,E.ks_mk,List.map_cons,List.map_nil] at h
   exact h
  refine ⟨.mk 7 0 ⟨false,0⟩ [(.mk 1 c ⟨false,0⟩ []),(.mk 1 c' ⟨false,0⟩ [])],p + 5,?_,by omega,by (try simp only [esz,eszL]); omega⟩
  rotate_left
  refine ⟨.mk 10 0 ⟨false,0⟩ [.mk 11 0 ⟨false,0⟩ [(.mk 1 c ⟨false,0⟩ [])]],p + 5,?_,by omega,by (try simp only [esz,eszL]); omega⟩
  rotate_left
  refine ⟨.mk 7 0 ⟨false,0⟩ [(.mk 1 c' ⟨false,0⟩ []),(.mk 1 c ⟨false,0⟩ [])],p + 5,?_,by omega,by (try simp only [esz,eszL]); omega⟩
  rotate_left
  refine ⟨.mk 7 0 ⟨false,0⟩ [(.mk 1 c' ⟨false,0⟩ []),(.mk 1 c ⟨false,0⟩ [])],p + 5,?_,by omega,by (try simp only [esz,eszL]); omega⟩
  rotate_left
  refine ⟨.mk 7 0 ⟨false,0⟩ [(.mk 1 c ⟨false,0⟩ []),(.mk 1 c' ⟨false,0⟩ [])],p + 5,?_,by omega,by (try simp only [esz,eszL]); omega⟩
  rotate_left
  refine ⟨.mk 6 0 ⟨false,0⟩ [(.mk 1 c ⟨false,0⟩ []),(.mk 1 c' ⟨false,0⟩ [])],p + 5,?_,by omega,by (try simp only [esz,eszL]); omega⟩
  rotate_left
  refine ⟨.mk 6 0 ⟨false,0⟩ [(.mk 1 c ⟨false,0⟩ []),(.mk 1 c' ⟨false,0⟩ [])],p + 5,?_,by omega,by (try simp only [esz,eszL]); omega⟩
  rotate_left
  all_goals
   refine Bk c_Z101 mixed 1 (go1 trivial ?_)
   refine UcR [1000000] trivial (hc) (go1 trivial ?_)
   refine UcR [1000000] trivial (hm) (go1 trivial ?_)
   refine Uc trivial (hcon) (go1 trivial ?_)
   refine UcR [1000000] trivial (hj) (go1 trivial ?_)
   refine UcR [1000000] trivial (hc') (go1 trivial ?_)
   refine UcR [1000000] trivial (hk) (go1 trivial ?_)
   refine fin_L [1000000] ?_ ?_ rfl ?_
   repeat' (first|(conv in hold _=>simp (disch:=omega) only [go_sem])|exact trivial|exact Sub.refl _|omega)
  ·exact Sub.agg (twoC (leafC c) (leafC c'))
  ·exact Sub.agg (oneC (oneC (leafC c)))
  ·exact Sub.agg (twoC (leafC c') (leafC c))
  ·exact Sub.agg (twoC (leafC c') (leafC c))
  ·exact Sub.agg (twoC (leafC c) (leafC c'))
  ·exact Sub.agg (twoC (leafC c) (leafC c'))
  ·exact Sub.agg (twoC (leafC c) (leafC c'))
 ·obtain ⟨k,hk,k0,k1,_⟩:=pick_ok hs (p + 3) (by omega) 8 (by omega)
  have hk1:=k1 (by omega)
  have hk7 : k = 0 ∨ (k = 2 ∧ ¬ d = 0) ∨ (k = 2 ∧ d = 0) ∨ k = 1 ∨ k = 3 ∨ k = 4 ∨ k = 5 ∨ k = 6 ∨ k = 7:=by omega
  obtain ⟨ee,qe,hxe,hqe0,hqe1⟩:=randomExpr_ok hs n hn 2 (p + 4) (by omega)
  rcases hk7 with rfl | ⟨rfl,hd0⟩ | ⟨rfl,hd0⟩ | rfl | rfl | rfl | rfl | rfl | rfl
  ·refine ⟨ee,qe,?_,by omega,by (try simp only [esz,eszL]); omega⟩
   refine Bk c_Z101 mixed 1 (go1 trivial ?_)
   refine UcR [1000000] trivial (hc) (go1 trivial ?_)
   refine UcR [1000000] trivial (hm) (go1 trivial ?_)
   refine Uc trivial (hcon) (go1 trivial ?_)
   refine UcR [1000000] trivial (hj) (go1 trivial ?_)
   refine UcR [1000000] trivial (hk) (go1 trivial ?_)
   refine UcR [1000000] trivial (hxe) (go1 trivial ?_)
   refine fin_L [1000000] ?_ ?_ rfl ?_
   all_goals exact Ag trivial
  ·obtain ⟨d',rfl⟩ : ∃ d',d = d' + 1:=⟨d - 1,by omega⟩
   have hcd : cbd (d' + 1) = 80 + cbd d':=rfl
   obtain ⟨e2,q2,hx2,hq0,hq1⟩:=ih d' (p + 4) rfl (by omega)
   refine ⟨.mk 8 0 ⟨false,0⟩ [e2,.mk 6 0 ⟨false,0⟩ [(.mk 1 c ⟨false,0⟩ []),(.mk 2 0 ⟨false,m⟩ [])]],q2,?_,by omega,by (try simp only [esz,eszL]); omega⟩
   refine Bk c_Z101 mixed 1 (go1 trivial ?_)
   refine UcR [1000000] trivial (hc) (go1 trivial ?_)
   refine UcR [1000000] trivial (hm) (go1 trivial ?_)
   refine Uc trivial (hcon) (go1 trivial ?_)
   refine UcR [1000000] trivial (hj) (go1 trivial ?_)
   refine UcR [1000000] trivial (hk) (go1 trivial ?_)
   refine UcR [1000000] trivial (hx2) (go1 trivial ?_)
   refine fin_L [1000000] ?_ ?_ rfl ?_
   repeat' (first|(conv in hold _=>simp (disch:=omega) only [go_sem])|exact trivial|exact Sub.refl _|omega)
   have h:=Sub.agg (twoC (k:=8) (SubL.refl (eC e2)) (twoC (k:=6) (leafC c) (SubL.refl (eC (.mk 2 0 ⟨false,m⟩ [])))))
   simp only [eC,eD_eq,E.k_mk,E.c_mk,E.v_mk,E.ks_mk,List.map_cons,List.map_nil] at h
   exact h
  refine ⟨.mk 7 0 ⟨false,0⟩ [(.mk 1 c ⟨false,0⟩ []),(.mk 2 0 ⟨false,m⟩ [])],p + 4,?_,by omega,by (try simp only [esz,eszL]); omega⟩
  rotate_left
  refine ⟨.mk 10 0 ⟨false,0⟩ [.mk 11 0 ⟨false,0⟩ [(.mk 1 c ⟨false,0⟩ [])]],p + 4,?_,by omega,by (try simp only [esz,eszL]); omega⟩
  rotate_left
  refine ⟨.mk 7 0 ⟨false,0⟩ [(.mk 2 0 ⟨false,m⟩ []),(.mk 1 c ⟨false,0⟩ [])],p + 4,?_,by omega,by (try simp only [esz,eszL]); omega⟩
  rotate_left
  refine ⟨.mk 7 0 ⟨false,0⟩ [(.mk 2 0 ⟨false,m⟩ []),(.mk 1 c ⟨false,0⟩ [])],p + 4,?_,by omega,by (try simp only [esz,eszL]); omega⟩
  rotate_left
  refine ⟨.mk 7 0 ⟨false,0⟩ [(.mk 1 c ⟨false,0⟩ []),(.mk 2 0 ⟨false,m⟩ [])],p + 4,?_,by omega,by (try simp only [esz,eszL]); omega⟩
  rotate_left
  refine ⟨.mk 6 0 ⟨false,0⟩ [(.mk 1 c ⟨false,0⟩ []),(.mk 2 0 ⟨false,m⟩ [])],p + 4,?_,by omega,by (try simp only [esz,eszL]); omega⟩
  rotate_left
  refine ⟨.mk 6 0 ⟨false,0⟩ [(.mk 1 c ⟨false,0⟩ []),(.mk 2 0 ⟨false,m⟩ [])],p + 4,?_,by omega,by (try simp only [esz,eszL]); omega⟩
  rotate_left
  all_goals
   refine Bk c_Z101 mixed 1 (go1 trivial ?_)
   refine UcR [1000000] trivial (hc) (go1 trivial ?_)
   refine UcR [1000000] trivial (hm) (go1 trivial ?_)
   refine Uc trivial (hcon) (go1 trivial ?_)
   refine UcR [1000000] trivial (hj) (go1 trivial ?_)
   refine UcR [1000000] trivial (hk) (go1 trivial ?_)
   refine fin_L [1000000] ?_ ?_ rfl ?_
   repeat' (first|(conv in hold _=>simp (disch:=omega) only [go_sem])|exact trivial|exact Sub.refl _|omega)
  ·exact Sub.agg (twoC (leafC c) (SubL.refl (eC (.mk 2 0 ⟨false,m⟩ []))))
  ·exact Sub.agg (oneC (oneC (leafC c)))
  ·exact Sub.agg (twoC (SubL.refl (eC (.mk 2 0 ⟨false,m⟩ []))) (leafC c))
  ·exact Sub.agg (twoC (SubL.refl (eC (.mk 2 0 ⟨false,m⟩ []))) (leafC c))
  ·exact Sub.agg (twoC (leafC c) (SubL.refl (eC (.mk 2 0 ⟨false,m⟩ []))))
  ·exact Sub.agg (twoC (leafC c) (SubL.refl (eC (.mk 2 0 ⟨false,m⟩ []))))
  ·exact Sub.agg (twoC (leafC c) (SubL.refl (eC (.mk 2 0 ⟨false,m⟩ []))))
theorem condition_ok {bs : List Nat} (hs : Src bs) (n : Int) (hn : n < 1000) : ∀ (d : Nat) (p : Nat),d ≤ 2 → p + cbd d < 700000000 → ∃ (e : E) (q : Nat),
  Does Tryz.prog 178 [rdD bs p] [.ref 1000000 0,I n,I d] (eD e) [rdD bs q] ∧ p ≤ q ∧ q ≤ p + cbd d ∧ esz e ≤ 10 + 4 * d:=by
 intro d
 induction d with
 | zero=>exact fun p hd hp=>cond_step hs n hn 0 (fun d' p h=>by omega) p hd hp
 | succ d ih=>
  intro p hd hp
  exact cond_step hs n hn (d + 1) (fun d' p h hp=>by
   obtain rfl : d = d':=by omega
   exact ih p (by omega) hp) p hd hp
theorem randomCondition_ok {bs : List Nat} (hs : Src bs) (n : Int) (hn : n < 1000) (p : Nat) (hp : p < 600000000) : ∃ (e : E) (q : Nat),
  Does Tryz.prog 155 [rdD bs p] [.ref 1000000 0,I n] (eD e) [rdD bs q] ∧ p ≤ q ∧ q ≤ p + 240 ∧ esz e ≤ 18:=by
 have hb : cbd 2 = 240:=by decide
 obtain ⟨e,q,he,h0,h1⟩:=condition_ok hs n hn 2 p (by decide) (by omega)
 refine ⟨e,q,?_,by omega,by (try simp only [esz,eszL]); omega⟩
 refine Bk c_Z22 mixed 1 (go1 trivial ?_)
 refine UcR [1000000] trivial (he) (go1 trivial ?_)
 refine fin_L [1000000] ?_ ?_ rfl ?_
 all_goals exact Ag trivial
end Go.Proofs.YtgpdmgaemhelgaaGreat
